/- A part. -/
import Derived.Test.YtooehgijllihdaaJA
import Derived.Test.YtooehgijllihdaaJW
import Derived.Test.YtooehgijllihdaaJB
namespace Go.Proofs.Ytooehgijllihdaa.Ff
theorem sq_nn (x : Rat) : 0 ≤ x * x := by
 by_cases h : 0 ≤ x
 ·exact Rat.mul_nonneg h h
 ·have h2 : 0 ≤ -x := by grind
  have := Rat.mul_nonneg h2 h2
  grind
theorem mul_le_l {a b c : Rat} (h : a ≤ b) (hc : 0 ≤ c) : c * a ≤ c * b := Rat.mul_le_mul_of_nonneg_left h hc
theorem sq_le_sq {x y : Rat} (h0 : 0 ≤ x) (h : x ≤ y) : x * x ≤ y * y := by
 have h1 := mul_le_l h h0
 have h2 := mul_le_l h (show (0 : Rat) ≤ y by grind)
 grind
theorem amgm (X G V c Y E : Rat) (hV : 0 < V) (hc : 0 < c) (h1 : X * X ≤ V * Y) (h2 : G * G ≤ c * E) : 2 * (X * G) ≤ c * Y + V * E := by
 have s := sq_nn (c * X - V * G)
 have a := mul_le_l h1 (show (0 : Rat) ≤ c * c from Rat.mul_nonneg (Rat.le_of_lt hc) (Rat.le_of_lt hc))
 have b := mul_le_l h2 (show (0 : Rat) ≤ V * V from Rat.mul_nonneg (Rat.le_of_lt hV) (Rat.le_of_lt hV))
 have p : 0 < V * c := Rat.mul_pos hV hc
 have e : (V * c) * (2 * (X * G)) ≤ (V * c) * (c * Y + V * E) := by grind
 exact Rat.le_of_mul_le_mul_left e p
theorem three (X G F V c n Y E N : Rat) (hV : 0 < V) (hc : 0 < c) (hn : 0 < n) (h1 : X * X ≤ V * Y) (h2 : G * G ≤ c * E) (h3 : F * F ≤ n * N) : (X - G - F) * (X - G - F) ≤ (V + c + n) * (Y + E + N) := by
 have a := amgm (-X) G V c Y E hV hc (by grind) h2
 have b := amgm (-X) F V n Y N hV hn (by grind) h3
 have d := amgm G F c n E N hc hn h2 h3
 grind
theorem two (X F V n Y N : Rat) (hV : 0 < V) (hn : 0 < n) (h1 : X * X ≤ V * Y) (h3 : F * F ≤ n * N) : (X + F) * (X + F) ≤ (V + n) * (Y + N) := by
 have b := amgm X F V n Y N hV hn h1 h3
 grind
theorem split (D q e f : Rat) (he : 0 < e) (hf : e * f = 1) : (D + q) * (D + q) ≤ (1 + e) * (D * D) + (1 + f) * (q * q) := by
 have s := sq_nn (e * D - q)
 have q2 : e * (f * (q * q)) = q * q := by rw [← Rat.mul_assoc, hf, Rat.one_mul]
 have p : e * (2 * (D * q)) ≤ e * (e * (D * D) + f * (q * q)) := by grind
 have := Rat.le_of_mul_le_mul_left p he
 grind
theorem odd_le (a1 a2 a3 w1 w2 w3 m1 m2 m3 s z N e f : Rat) (he : 0 < e) (hf : e * f = 1) (f0 : 0 ≤ f)
  (h1 : (w1 - s * m1) * (w1 - s * m1) ≤ z * N) (h2 : (w2 - s * m2) * (w2 - s * m2) ≤ z * N) (h3 : (w3 - s * m3) * (w3 - s * m3) ≤ z * N) :
  (a1 - s * m1) * (a1 - s * m1) + (a2 - s * m2) * (a2 - s * m2) + (a3 - s * m3) * (a3 - s * m3) ≤
   (1 + e) * (((a1 - w1) * (a1 - w1) + (a2 - w2) * (a2 - w2) + (a3 - w3) * (a3 - w3)) + 3 * f * z * N) := by
 have k1 := split (a1 - w1) (w1 - s * m1) e f he hf
 have k2 := split (a2 - w2) (w2 - s * m2) e f he hf
 have k3 := split (a3 - w3) (w3 - s * m3) e f he hf
 have p : (0 : Rat) ≤ 1 + f := by grind
 have l1 := mul_le_l h1 p
 have l2 := mul_le_l h2 p
 have l3 := mul_le_l h3 p
 have q : (1 + e) * (3 * f * z * N) = (1 + f) * (3 * (z * N)) := by
  have : (1 + e) * f = 1 + f := by grind
  grind
 have e1 : (a1 - w1) + (w1 - s * m1) = a1 - s * m1 := by grind
 have e2 : (a2 - w2) + (w2 - s * m2) = a2 - s * m2 := by grind
 have e3 : (a3 - w3) + (w3 - s * m3) = a3 - s * m3 := by grind
 rw [e1] at k1
 rw [e2] at k2
 rw [e3] at k3
 grind
theorem even_ge (g1 g2 g3 : Rat) : 4 * (((g1 + g2 + g3) / 7) * ((g1 + g2 + g3) / 7)) ≤ 3 * ((g1 * g1 + g2 * g2 + g3 * g3) / 7 - ((g1 + g2 + g3) / 7) * ((g1 + g2 + g3) / 7)) := by
 have h1 := sq_nn (g1 - g2)
 have h2 := sq_nn (g1 - g3)
 have h3 := sq_nn (g2 - g3)
 grind
theorem joint_first {X F V n N J a1 a2 a3 w1 w2 w3 m1 m2 m3 g1 g2 g3 s z r e f : Rat} (he : 0 < e) (hf : e * f = 1) (f0 : 0 ≤ f) (hV : 0 < V) (hn : 0 < n) (r0 : 0 ≤ r)
  (h1 : (w1 - s * m1) * (w1 - s * m1) ≤ z * N) (h2 : (w2 - s * m2) * (w2 - s * m2) ≤ z * N) (h3 : (w3 - s * m3) * (w3 - s * m3) ≤ z * N)
  (hX : X * X ≤ V * (((a1 - s * m1) * (a1 - s * m1) + (a2 - s * m2) * (a2 - s * m2) + (a3 - s * m3) * (a3 - s * m3)) / 7))
  (hF : F * F ≤ n * ((1 - 3 / 7 * f * z) * N))
  (hJ : J = ((a1 - w1) * (a1 - w1) + (a2 - w2) * (a2 - w2) + (a3 - w3) * (a3 - w3)) / 7 + ((g1 * g1 + g2 * g2 + g3 * g3) / 7 - ((g1 + g2 + g3) / 7) * ((g1 + g2 + g3) / 7)) + r + N) :
  (X - (g1 + g2 + g3) / 7 - F) * (X - (g1 + g2 + g3) / 7 - F) ≤ (V * (1 + e) + 3 / 4 + n) * J := by
 have o := odd_le a1 a2 a3 w1 w2 w3 m1 m2 m3 s z N e f he hf f0 h1 h2 h3
 have ev := even_ge g1 g2 g3
 generalize hO : (a1 - w1) * (a1 - w1) + (a2 - w2) * (a2 - w2) + (a3 - w3) * (a3 - w3) = O at *
 generalize hA : (a1 - s * m1) * (a1 - s * m1) + (a2 - s * m2) * (a2 - s * m2) + (a3 - s * m3) * (a3 - s * m3) = A at *
 generalize hE : (g1 * g1 + g2 * g2 + g3 * g3) / 7 - ((g1 + g2 + g3) / 7) * ((g1 + g2 + g3) / 7) = E at *
 generalize hG : (g1 + g2 + g3) / 7 = G at *
 have hV1 : 0 < V * (1 + e) := Rat.mul_pos hV (by grind)
 have x1 : X * X ≤ (V * (1 + e)) * (O / 7 + 3 / 7 * f * z * N) := by
  have := mul_le_l o (Rat.le_of_lt hV)
  grind
 have g1 : G * G ≤ (3 / 4) * E := by grind
 have t := three X G F (V * (1 + e)) (3 / 4) n (O / 7 + 3 / 7 * f * z * N) E ((1 - 3 / 7 * f * z) * N) hV1 (by grind) hn x1 g1 hF
 have u : O / 7 + 3 / 7 * f * z * N + E + (1 - 3 / 7 * f * z) * N = J - r := by grind
 rw [u] at t
 have p : 0 ≤ (V * (1 + e) + 3 / 4 + n) * r := Rat.mul_nonneg (by grind) r0
 grind
theorem joint_then {X F V n N J O a1 a2 a3 w1 w2 w3 m1 m2 m3 s z r e f : Rat} (he : 0 < e) (hf : e * f = 1) (f0 : 0 ≤ f) (hV : 0 < V) (hn : 0 < n) (r0 : 0 ≤ r)
  (h1 : (w1 - s * m1) * (w1 - s * m1) ≤ z * N) (h2 : (w2 - s * m2) * (w2 - s * m2) ≤ z * N) (h3 : (w3 - s * m3) * (w3 - s * m3) ≤ z * N)
  (hX : X * X ≤ V * (((a1 - s * m1) * (a1 - s * m1) + (a2 - s * m2) * (a2 - s * m2) + (a3 - s * m3) * (a3 - s * m3)) / 7))
  (hF : F * F ≤ n * ((1 - 3 / 7 * f * z) * N)) (hO : O = (a1 - w1) * (a1 - w1) + (a2 - w2) * (a2 - w2) + (a3 - w3) * (a3 - w3))
  (hJ : J = O / 7 + r + N) : (X - F) * (X - F) ≤ (V * (1 + e) + n) * J := by
 have o := odd_le a1 a2 a3 w1 w2 w3 m1 m2 m3 s z N e f he hf f0 h1 h2 h3
 rw [← hO] at o
 generalize hA : (a1 - s * m1) * (a1 - s * m1) + (a2 - s * m2) * (a2 - s * m2) + (a3 - s * m3) * (a3 - s * m3) = A at *
 have hV1 : 0 < V * (1 + e) := Rat.mul_pos hV (by grind)
 have x1 : X * X ≤ (V * (1 + e)) * (O / 7 + 3 / 7 * f * z * N) := by
  have := mul_le_l o (Rat.le_of_lt hV)
  grind
 have t := two X (-F) (V * (1 + e)) n (O / 7 + 3 / 7 * f * z * N) ((1 - 3 / 7 * f * z) * N) hV1 hn x1 (by grind)
 have u : O / 7 + 3 / 7 * f * z * N + (1 - 3 / 7 * f * z) * N = J - r := by grind
 rw [u] at t
 have p : 0 ≤ (V * (1 + e) + n) * r := Rat.mul_nonneg (by grind) r0
 grind
end Go.Proofs.Ytooehgijllihdaa.Ff
namespace Go.Proofs.Ytooehgijllihdaa.Ff
structure R3 where
 x : Rat
 y : Rat
 z : Rat
def dt (a b : R3) : Rat := a.x * b.x + a.y * b.y + a.z * b.z
def cr (a b : R3) : R3 := ⟨a.y * b.z - a.z * b.y, a.z * b.x - a.x * b.z, a.x * b.y - a.y * b.x⟩
def sc (c : Rat) (a : R3) : R3 := ⟨c * a.x, c * a.y, c * a.z⟩
def ad (a b : R3) : R3 := ⟨a.x + b.x, a.y + b.y, a.z + b.z⟩
def sb3 (a b : R3) : R3 := ⟨a.x - b.x, a.y - b.y, a.z - b.z⟩
theorem dt_nn (a : R3) : 0 ≤ dt a a := by
 have h1 := sq_nn a.x; have h2 := sq_nn a.y; have h3 := sq_nn a.z
 unfold dt; grind
theorem cauchy (a b : R3) : dt a b * dt a b ≤ dt a a * dt b b := by
 obtain ⟨a1, a2, a3⟩ := a
 obtain ⟨b1, b2, b3⟩ := b
 have h1 := sq_nn (a1 * b2 - a2 * b1)
 have h2 := sq_nn (a1 * b3 - a3 * b1)
 have h3 := sq_nn (a2 * b3 - a3 * b2)
 simp only [dt]
 grind
theorem lagrange (a b : R3) : dt (cr a b) (cr a b) = dt a a * dt b b - dt a b * dt a b := by
 obtain ⟨a1, a2, a3⟩ := a
 obtain ⟨b1, b2, b3⟩ := b
 simp only [dt, cr]
 grind
theorem cr_le (a b : R3) : dt (cr a b) (cr a b) ≤ dt a a * dt b b := by
 rw [lagrange]; have := sq_nn (dt a b); grind
def mm (b1 b2 v1 v2 : R3) : R3 := ad (cr b1 v1) (cr b2 v2)
def nn (R1 R2 : Rat) (b1 b2 : R3) : Rat := R1 * dt b1 b1 + R2 * dt b2 b2
theorem dt_comm (a b : R3) : dt a b = dt b a := by simp only [dt]; grind
theorem two_v (a b : R3) (c d Y N : Rat) (hc : 0 < c) (hd : 0 < d) (h1 : dt a a ≤ c * Y) (h2 : dt b b ≤ d * N) : dt (ad a b) (ad a b) ≤ (c + d) * (Y + N) := by
 have k : dt (ad a b) (ad a b) = dt a a + dt b b + 2 * dt a b := by simp only [dt, ad]; grind
 have cs := cauchy a b
 have p : (2 * dt a b) * (2 * dt a b) ≤ (c * N + d * Y) * (c * N + d * Y) := by
  have n1 := dt_nn a; have n2 := dt_nn b
  have y0 : 0 ≤ c * Y := by grind
  have z0 : 0 ≤ d * N := by grind
  have m1 := mul_le_l h1 n2
  have m2 := mul_le_l h2 y0
  have s := sq_nn (c * N - d * Y)
  grind
 have q0 : 0 ≤ c * N + d * Y := by
  have n1 := dt_nn a; have n2 := dt_nn b
  have Y0 : 0 ≤ Y := by
   apply Classical.byContradiction; intro h
   have := mul_le_l (show Y ≤ 0 by grind) (Rat.le_of_lt hc)
   have : c * Y < 0 := by
    have h3 : Y < 0 := by grind
    have := Rat.mul_pos hc (show 0 < -Y by grind)
    grind
   grind
  have N0 : 0 ≤ N := by
   apply Classical.byContradiction; intro h
   have := Rat.mul_pos hd (show 0 < -N by grind)
   grind
  have := Rat.mul_nonneg (Rat.le_of_lt hc) N0
  have := Rat.mul_nonneg (Rat.le_of_lt hd) Y0
  grind
 have t : 2 * dt a b ≤ c * N + d * Y := by
  apply Classical.byContradiction; intro h
  have h3 : c * N + d * Y < 2 * dt a b := by grind
  have := sq_le_sq q0 (Rat.le_of_lt h3)
  have p1 : 0 < 2 * dt a b - (c * N + d * Y) := by grind
  have p2 : 0 < 2 * dt a b := by grind
  have := Rat.mul_pos p1 p2
  have := Rat.mul_nonneg (Rat.le_of_lt p1) q0
  grind
 rw [k]
 grind
theorem mm_le {R1 R2 W1 W2 t : Rat} (b1 b2 v1 v2 : R3) (h1 : R1 * W1 = 1) (h2 : R2 * W2 = 1) (w1 : 0 < W1) (w2 : 0 < W2) (hv1 : dt v1 v1 ≤ 1 + t) (hv2 : dt v2 v2 ≤ 1 + t) :
  dt (mm b1 b2 v1 v2) (mm b1 b2 v1 v2) ≤ (W1 + W2) * ((1 + t) * nn R1 R2 b1 b2) := by
 have c1 := cr_le b1 v1; have c2 := cr_le b2 v2
 have n1 := mul_le_l hv1 (dt_nn b1); have n2 := mul_le_l hv2 (dt_nn b2)
 have e1 : W1 * ((1 + t) * (R1 * dt b1 b1)) = dt b1 b1 * (1 + t) := by grind
 have e2 : W2 * ((1 + t) * (R2 * dt b2 b2)) = dt b2 b2 * (1 + t) := by grind
 have k := two_v (cr b1 v1) (cr b2 v2) W1 W2 ((1 + t) * (R1 * dt b1 b1)) ((1 + t) * (R2 * dt b2 b2)) w1 w2 (by rw [e1]; grind) (by rw [e2]; grind)
 unfold mm nn
 grind
theorem low_le (a M : R3) (s g h L Q : Rat) (g0 : 0 < g) (hgL : g * L = 1) (hh : 0 < h) (hM : dt (sc s M) (sc s M) ≤ h * Q) : dt a a ≤ (g + h) * (L * dt (sb3 a (sc s M)) (sb3 a (sc s M)) + Q) := by
 have e : ad (sb3 a (sc s M)) (sc s M) = a := by
  obtain ⟨a1, a2, a3⟩ := a; simp only [ad, sb3, sc]; congr 1 <;> grind
 have k := two_v (sb3 a (sc s M)) (sc s M) g h (L * dt (sb3 a (sc s M)) (sb3 a (sc s M))) Q g0 hh (by rw [← Rat.mul_assoc, hgL, Rat.one_mul]; exact Rat.le_refl) hM
 rw [e] at k
 exact k
def ch1 (c : Rat) (v1 a : R3) : R3 := sc c (cr v1 a)
def ch2 (c : Rat) (v1 v2 a : R3) : R3 := sc (-(c * dt a v1)) (cr v1 v2)
theorem ch1_v (c : Rat) (v1 a : R3) : dt (ch1 c v1 a) v1 = 0 := by
 obtain ⟨a1, a2, a3⟩ := a; obtain ⟨x, y, z⟩ := v1; simp only [dt, ch1, sc, cr]; grind
theorem ch2_v (c : Rat) (v1 v2 a : R3) : dt (ch2 c v1 v2 a) v2 = 0 := by
 obtain ⟨a1, a2, a3⟩ := a; obtain ⟨x, y, z⟩ := v1; obtain ⟨p, q, r⟩ := v2; simp only [dt, ch2, sc, cr]; grind
def chw (v1 v2 a : R3) : R3 := ad (sc (dt v1 v1 - 1) a) (sc (dt a v1) (sb3 (sc (dt v2 v2 - 1) v1) (sc (dt v1 v2) v2)))
theorem ch_m (c : Rat) (v1 v2 a : R3) : mm (ch1 c v1 a) (ch2 c v1 v2 a) v1 v2 = sc c (ad a (chw v1 v2 a)) := by
 obtain ⟨a1, a2, a3⟩ := a; obtain ⟨x, y, z⟩ := v1; obtain ⟨p, q, r⟩ := v2
 simp only [mm, ch1, ch2, chw, dt, sc, cr, ad, sb3]
 congr 1 <;> grind
theorem sc_sq (c : Rat) (a : R3) : dt (sc c a) (sc c a) = c * c * dt a a := by simp only [dt, sc]; grind
theorem ch1_sq (c : Rat) (v1 a : R3) : dt (ch1 c v1 a) (ch1 c v1 a) = c * c * (dt v1 v1 * dt a a - dt v1 a * dt v1 a) := by unfold ch1; rw [sc_sq, lagrange]
theorem ch2_sq (c : Rat) (v1 v2 a : R3) : dt (ch2 c v1 v2 a) (ch2 c v1 v2 a) = c * c * (dt v1 a * dt v1 a * (dt v1 v1 * dt v2 v2 - dt v1 v2 * dt v1 v2)) := by
 unfold ch2; rw [sc_sq, lagrange, dt_comm a v1]; grind
theorem ch_nn {R1 R2 t c : Rat} (v1 v2 a : R3) (r0 : 0 ≤ R1) (r1 : R1 ≤ R2) (t0 : 0 ≤ t) (h1 : dt v1 v1 ≤ 1 + t) (h2 : dt v2 v2 ≤ 1 + t) :
  nn R1 R2 (ch1 c v1 a) (ch2 c v1 v2 a) ≤ c * c * (R2 * ((1 + t) * (1 + t) * (1 + t))) * dt a a := by
 unfold nn
 rw [ch1_sq, ch2_sq]
 have n1 := dt_nn v1; have n2 := dt_nn v2; have na := dt_nn a
 have cs := cauchy v1 a
 have q0 := sq_nn (dt v1 a)
 have q1 := sq_nn (dt v1 v2)
 have c0 := sq_nn c
 generalize dt v1 a * dt v1 a = q at *
 generalize dt v1 v2 * dt v1 v2 = e at *
 generalize dt v1 v1 = A at *
 generalize dt v2 v2 = B at *
 generalize dt a a = n at *
 have R20 : 0 ≤ R2 := by grind
 have u : (1 + t) ≤ (1 + t) * (1 + t) := by have := Rat.mul_nonneg t0 t0; grind
 -- A B <= (1+t)^2
 have ab : A * B ≤ (1 + t) * (1 + t) := by
  have x1 := mul_le_l h2 n1
  have x2 := mul_le_l h1 (show 0 ≤ 1 + t by grind)
  grind
 have qn : q ≤ (1 + t) * n := by
  have := mul_le_l h1 na
  grind
 have k1 : R1 * (A * n - q) + R2 * (q * (A * B - e)) ≤ R2 * ((1 + t) * (1 + t) * (1 + t)) * n := by
  -- R1 (A n - q) <= R1 ((1+t) n - q); R2 q (AB - e) <= R2 q (1+t)^2
  have y1 : R1 * (A * n - q) ≤ R1 * ((1 + t) * n - q) := mul_le_l (by have := mul_le_l h1 na; grind) r0
  have y2 : R2 * (q * (A * B - e)) ≤ R2 * (q * ((1 + t) * (1 + t))) := mul_le_l (mul_le_l (by grind) q0) R20
  have z0 : 0 ≤ (1 + t) * n - q := by grind
  have y3 : R1 * ((1 + t) * n - q) ≤ R2 * ((1 + t) * n - q) := by
   have := mul_le_l r1 z0
   grind
  have y4 : (1 + t) * n - q + q * ((1 + t) * (1 + t)) ≤ (1 + t) * (1 + t) * (1 + t) * n := by
   have d : 0 ≤ (1 + t) * (1 + t) - 1 := by grind
   have := mul_le_l qn d
   grind
  have y5 := mul_le_l y4 R20
  grind
 have := mul_le_l k1 c0
 grind
end Go.Proofs.Ytooehgijllihdaa.Ff
namespace Go.Proofs.Ytooehgijllihdaa.Ff
def cmp (x d : R3) : R3 := sb3 (sb3 (sc (16 - dt d d) x) (sc (16 - dt x x) d)) (sc 8 (cr d x))
def den (x d : R3) : Rat := 256 + dt x x * dt d d + 32 * dt x d
def ext (x d : R3) : R3 := sb3 (sc 16 (cmp x d)) (sc (den x d) (sb3 x d))
theorem ext_is (x d : R3) : ext x d = ad (ad (sc (-128) (cr x (sb3 x d))) (sc (-(16 * dt x x + 32 * dt x d + dt x x * dt d d)) (sb3 x d))) (sc (16 * (2 * dt x (sb3 x d) - dt (sb3 x d) (sb3 x d))) x) := by
 obtain ⟨a, b, c⟩ := x; obtain ⟨p, q, r⟩ := d
 simp only [ext, cmp, den, dt, sc, cr, ad, sb3]
 congr 1 <;> grind
theorem ext_sq (c1 c2 : Rat) (x e : R3) : dt (ad (ad (sc (-128) (cr x e)) (sc c1 e)) (sc c2 x)) (ad (ad (sc (-128) (cr x e)) (sc c1 e)) (sc c2 x)) = 16384 * (dt x x * dt e e - dt x e * dt x e) + (c1 * c1 * dt e e + 2 * (c1 * c2) * dt x e + c2 * c2 * dt x x) := by
 obtain ⟨a, b, c⟩ := x; obtain ⟨p, q, r⟩ := e
 simp only [dt, sc, cr, ad]
 grind
theorem ext_le {x d : R3} {X C1 C2 : Rat} (hX : dt x x ≤ X) (h1 : (16 * dt x x + 32 * dt x d + dt x x * dt d d) * (16 * dt x x + 32 * dt x d + dt x x * dt d d) ≤ C1)
  (h2 : (16 * (2 * dt x (sb3 x d) - dt (sb3 x d) (sb3 x d))) * (16 * (2 * dt x (sb3 x d) - dt (sb3 x d) (sb3 x d))) ≤ C2 * dt (sb3 x d) (sb3 x d)) :
  dt (ext x d) (ext x d) ≤ (16384 * X + 2 * C1 + 2 * C2 * X) * dt (sb3 x d) (sb3 x d) := by
 rw [ext_is, ext_sq]
 have cs := cauchy x (sb3 x d)
 have q0 := sq_nn (dt x (sb3 x d))
 have n0 := dt_nn (sb3 x d)
 have x0 := dt_nn x
 generalize 16 * dt x x + 32 * dt x d + dt x x * dt d d = c1 at *
 generalize 16 * (2 * dt x (sb3 x d) - dt (sb3 x d) (sb3 x d)) = c2 at *
 generalize dt x (sb3 x d) = m at *
 generalize dt (sb3 x d) (sb3 x d) = n at *
 generalize dt x x = y at *
 -- 2 c1 c2 m <= c1^2 n + c2^2 y
 have p : 2 * (-c1 * c2) * m ≤ c1 * c1 * n + c2 * c2 * y := by
  have s1 := sq_nn (c1 * c1 * n - c2 * c2 * y)
  have c1n := Rat.mul_nonneg (sq_nn c1) n0
  have c2n := Rat.mul_nonneg (sq_nn c2) x0
  have cc := mul_le_l cs (Rat.mul_nonneg (sq_nn c1) (sq_nn c2))
  apply Classical.byContradiction; intro h
  have h3 : c1 * c1 * n + c2 * c2 * y < 2 * (-c1 * c2) * m := by grind
  have l0 : 0 ≤ c1 * c1 * n + c2 * c2 * y := by grind
  have p1 : 0 < 2 * (-c1 * c2) * m - (c1 * c1 * n + c2 * c2 * y) := by grind
  have p2 : 0 < 2 * (-c1 * c2) * m := by grind
  have := Rat.mul_pos p1 p2
  have := Rat.mul_nonneg (Rat.le_of_lt p1) l0
  grind
 have a1 := mul_le_l h1 n0
 have a2 := mul_le_l h2 x0
 have a3 := mul_le_l hX n0
 have C20 : 0 ≤ C2 * n := Rat.le_trans (sq_nn c2) h2
 have a4 := mul_le_l hX C20
 grind
end Go.Proofs.Ytooehgijllihdaa.Ff
namespace Go.Proofs.Ytooehgijllihdaa.Ff
theorem sq_two (x y : Rat) : (x + y) * (x + y) ≤ 2 * (x * x) + 2 * (y * y) := by have := sq_nn (x - y); grind
structure Noise (R1 R2 W1 W2 : Rat) : Prop where
 r1 : 0 < R1
 r2 : R1 ≤ R2
 w1 : 0 < W1
 w2 : 0 < W2
 e1 : R1 * W1 = 1
 e2 : R2 * W2 = 1
theorem nn_nn {R1 R2 W1 W2 : Rat} (H : Noise R1 R2 W1 W2) (b1 b2 : R3) : 0 ≤ nn R1 R2 b1 b2 := by
 have := Rat.mul_nonneg (Rat.le_of_lt H.r1) (dt_nn b1)
 have := Rat.mul_nonneg (show 0 ≤ R2 by have := H.r1; have := H.r2; grind) (dt_nn b2)
 unfold nn; grind
theorem row_cs {R1 R2 W1 W2 : Rat} (H : Noise R1 R2 W1 W2) (b1 b2 r1 r2 : R3) : (dt b1 r1 + dt b2 r2) * (dt b1 r1 + dt b2 r2) ≤ (W1 * dt r1 r1 + W2 * dt r2 r2) * nn R1 R2 b1 b2 := by
 have c1 := cauchy b1 r1; have c2 := cauchy b2 r2
 have n1 := dt_nn b1; have n2 := dt_nn b2; have m1 := dt_nn r1; have m2 := dt_nn r2
 have w1 := H.w1; have w2 := H.w2
 have e1 : (W1 * dt r1 r1) * (R1 * dt b1 b1) = dt b1 b1 * dt r1 r1 := by have := H.e1; grind
 have e2 : (W2 * dt r2 r2) * (R2 * dt b2 b2) = dt b2 b2 * dt r2 r2 := by have := H.e2; grind
 have p1 : 0 ≤ W1 * dt r1 r1 := Rat.mul_nonneg (Rat.le_of_lt w1) m1
 have p2 : 0 ≤ W2 * dt r2 r2 := Rat.mul_nonneg (Rat.le_of_lt w2) m2
 have r20 : 0 < R2 := by have := H.r1; have := H.r2; grind
 have s1 : 0 ≤ R1 * dt b1 b1 := Rat.mul_nonneg (Rat.le_of_lt H.r1) n1
 have s2 : 0 ≤ R2 * dt b2 b2 := Rat.mul_nonneg (Rat.le_of_lt r20) n2
 unfold nn
 rw [← e1] at c1
 rw [← e2] at c2
 generalize dt b1 r1 = x at *
 generalize dt b2 r2 = y at *
 generalize W1 * dt r1 r1 = A at *
 generalize W2 * dt r2 r2 = B at *
 generalize R1 * dt b1 b1 = C at *
 generalize R2 * dt b2 b2 = E at *
 -- 2 x y <= A E + B C
 have k : 2 * (x * y) ≤ A * E + B * C := by
  have q := mul_le_l c2 (sq_nn x)
  have q2 := mul_le_l c1 (Rat.mul_nonneg p2 s2)
  have s := sq_nn (A * E - B * C)
  have l0 : 0 ≤ A * E + B * C := by have := Rat.mul_nonneg p1 s2; have := Rat.mul_nonneg p2 s1; grind
  apply Classical.byContradiction; intro h
  have h3 : A * E + B * C < 2 * (x * y) := by grind
  have p3 : 0 < 2 * (x * y) - (A * E + B * C) := by grind
  have p4 : 0 < 2 * (x * y) := by grind
  have := Rat.mul_pos p3 p4
  have := Rat.mul_nonneg (Rat.le_of_lt p3) l0
  grind
 grind
structure Dirs (v1 v2 : R3) (t : Rat) : Prop where
 t0 : 0 ≤ t
 t1 : t ≤ 1 / 1000
 a : dt v1 v1 ≤ 1 + t
 a' : 1 - t ≤ dt v1 v1
 b : dt v2 v2 ≤ 1 + t
 b' : 1 - t ≤ dt v2 v2
 c : dt v1 v2 ≤ t
 c' : -t ≤ dt v1 v2
structure Pt (v1 v2 p o1 o2 e1 e2 : R3) (D s sg eps : Rat) : Prop where
 len : dt p p ≤ D
 odd : ∃ c, (c - s) * (c - s) ≤ sg ∧ dt (ad o1 (sc c (cr p v1))) (ad o1 (sc c (cr p v1))) ≤ eps ∧ dt (ad o2 (sc c (cr p v2))) (ad o2 (sc c (cr p v2))) ≤ eps
 even : ∃ c, 0 ≤ c ∧ c ≤ 1 / 2 ∧ dt (sb3 e1 (sc c (cr p (cr p v1)))) (sb3 e1 (sc c (cr p (cr p v1)))) ≤ eps ∧ dt (sb3 e2 (sc c (cr p (cr p v2)))) (sb3 e2 (sc c (cr p (cr p v2)))) ≤ eps
theorem odd_row (b1 b2 v1 v2 p o1 o2 : R3) (c : Rat) : dt b1 o1 + dt b2 o2 = c * dt p (mm b1 b2 v1 v2) + (dt b1 (ad o1 (sc c (cr p v1))) + dt b2 (ad o2 (sc c (cr p v2)))) := by
 obtain ⟨a1, a2, a3⟩ := b1; obtain ⟨a4, a5, a6⟩ := b2; obtain ⟨x1, x2, x3⟩ := v1; obtain ⟨x4, x5, x6⟩ := v2; obtain ⟨p1, p2, p3⟩ := p
 simp only [dt, ad, sc, cr, mm]; grind
theorem Pt.odd_le {v1 v2 p o1 o2 e1 e2 : R3} {D s sg eps t R1 R2 W1 W2 : Rat} (H : Noise R1 R2 W1 W2) (V : Dirs v1 v2 t) (P : Pt v1 v2 p o1 o2 e1 e2 D s sg eps) (b1 b2 : R3) :
  ((dt b1 o1 + dt b2 o2) - s * dt p (mm b1 b2 v1 v2)) * ((dt b1 o1 + dt b2 o2) - s * dt p (mm b1 b2 v1 v2)) ≤ (2 * (W1 + W2) * (sg * D * (1 + t) + eps)) * nn R1 R2 b1 b2 := by
 obtain ⟨c, hc, h1, h2⟩ := P.odd
 rw [odd_row b1 b2 v1 v2 p o1 o2 c]
 have r := row_cs H b1 b2 (ad o1 (sc c (cr p v1))) (ad o2 (sc c (cr p v2)))
 have m := mm_le b1 b2 v1 v2 H.e1 H.e2 H.w1 H.w2 V.a V.b
 have cs := cauchy p (mm b1 b2 v1 v2)
 have N0 := nn_nn H b1 b2
 have w1 := H.w1; have w2 := H.w2
 have pl := P.len
 have p0 := dt_nn p
 have m0 := dt_nn (mm b1 b2 v1 v2)
 generalize dt (ad o1 (sc c (cr p v1))) (ad o1 (sc c (cr p v1))) = g1 at *
 generalize dt (ad o2 (sc c (cr p v2))) (ad o2 (sc c (cr p v2))) = g2 at *
 generalize dt b1 (ad o1 (sc c (cr p v1))) + dt b2 (ad o2 (sc c (cr p v2))) = q at *
 generalize dt p (mm b1 b2 v1 v2) = u at *
 generalize dt (mm b1 b2 v1 v2) (mm b1 b2 v1 v2) = M at *
 generalize nn R1 R2 b1 b2 = N at *
 generalize dt p p = y at *
 have e : c * u + q - s * u = (c - s) * u + q := by grind
 rw [e]
 have k := sq_two ((c - s) * u) q
 have D0 : 0 ≤ D := by grind
 have k1 : ((c - s) * u) * ((c - s) * u) ≤ sg * (D * ((W1 + W2) * ((1 + t) * N))) := by
  have x1 := mul_le_l cs (sq_nn (c - s))
  have x2 : y * M ≤ D * M := by have := mul_le_l pl m0; grind
  have x3 := mul_le_l m D0
  have x4 := mul_le_l x2 (sq_nn (c - s))
  have x5 := mul_le_l x3 (sq_nn (c - s))
  have tt := V.t0
  have big : 0 ≤ D * ((W1 + W2) * ((1 + t) * N)) := Rat.mul_nonneg D0 (Rat.mul_nonneg (by grind) (Rat.mul_nonneg (by grind) N0))
  have x6 := mul_le_l hc big
  grind
 have k2 : q * q ≤ (W1 + W2) * eps * N := by
  have y1 := mul_le_l h1 (Rat.le_of_lt w1)
  have y2 := mul_le_l h2 (Rat.le_of_lt w2)
  have y3 : W1 * g1 + W2 * g2 ≤ (W1 + W2) * eps := by grind
  have := mul_le_l y3 N0
  grind
 grind
end Go.Proofs.Ytooehgijllihdaa.Ff
namespace Go.Proofs.Ytooehgijllihdaa.Ff
structure Vw where
 p : R3
 o1 : R3
 o2 : R3
 e1 : R3
 e2 : R3
def Vw.w (P : Vw) (b1 b2 : R3) : Rat := dt b1 P.o1 + dt b2 P.o2
def Vw.g (P : Vw) (b1 b2 : R3) : Rat := dt b1 P.e1 + dt b2 P.e2
abbrev Vw.Ok (P : Vw) (v1 v2 : R3) (D s sg eps : Rat) : Prop := Pt v1 v2 P.p P.o1 P.o2 P.e1 P.e2 D s sg eps
def frm (P Q S : Vw) (a : R3) : Rat := (dt a P.p * dt a P.p + dt a Q.p * dt a Q.p + dt a S.p * dt a S.p) / 7
def oddJ (P Q S : Vw) (a b1 b2 : R3) : Rat := ((dt a P.p - P.w b1 b2) * (dt a P.p - P.w b1 b2) + (dt a Q.p - Q.w b1 b2) * (dt a Q.p - Q.w b1 b2) + (dt a S.p - S.w b1 b2) * (dt a S.p - S.w b1 b2)) / 7
def mnG (P Q S : Vw) (b1 b2 : R3) : Rat := (P.g b1 b2 + Q.g b1 b2 + S.g b1 b2) / 7
def sqG (P Q S : Vw) (b1 b2 : R3) : Rat := (P.g b1 b2 * P.g b1 b2 + Q.g b1 b2 * Q.g b1 b2 + S.g b1 b2 * S.g b1 b2) / 7
def evnJ (P Q S : Vw) (b1 b2 : R3) : Rat := sqG P Q S b1 b2 - mnG P Q S b1 b2 * mnG P Q S b1 b2
def bothJ (R1 R2 : Rat) (P Q S : Vw) (r : Rat) (a b1 b2 : R3) : Rat := oddJ P Q S a b1 b2 + evnJ P Q S b1 b2 + r + nn R1 R2 b1 b2
theorem evn_nn (P Q S : Vw) (b1 b2 : R3) : 0 ≤ evnJ P Q S b1 b2 := by
 have h := even_ge (P.g b1 b2) (Q.g b1 b2) (S.g b1 b2)
 have q := sq_nn (mnG P Q S b1 b2)
 unfold evnJ sqG
 unfold mnG at *
 grind
theorem cr_row (b1 b2 v1 v2 x : R3) : dt b1 (cr x v1) + dt b2 (cr x v2) = -dt x (mm b1 b2 v1 v2) := by
 obtain ⟨a1, a2, a3⟩ := b1; obtain ⟨a4, a5, a6⟩ := b2; obtain ⟨x1, x2, x3⟩ := v1; obtain ⟨x4, x5, x6⟩ := v2; obtain ⟨p1, p2, p3⟩ := x
 simp only [dt, cr, mm, ad]; grind
theorem dt_sub_sc (x a M : R3) (s : Rat) : dt (sb3 a (sc s M)) x = dt a x - s * dt x M := by simp only [dt, sb3, sc]; grind
theorem meet_first {R1 R2 W1 W2 t D s sg eps V n e f r ph : Rat} {v1 v2 x y1 y2 f1 f2 a b1 b2 : R3} {P Q S : Vw} (H : Noise R1 R2 W1 W2) (U : Dirs v1 v2 t) (hP : P.Ok v1 v2 D s sg eps) (hQ : Q.Ok v1 v2 D s sg eps) (hS : S.Ok v1 v2 D s sg eps)
  (he : 0 < e) (hf : e * f = 1) (f0 : 0 ≤ f) (hV : 0 < V) (hn : 0 < n) (r0 : 0 ≤ r) (hI : ∀ u, dt u x * dt u x ≤ V * frm P Q S u)
  (hy : dt b1 y1 + dt b2 y2 = (dt b1 f1 + dt b2 f2) - s * (dt b1 (cr x v1) + dt b2 (cr x v2)) - mnG P Q S b1 b2)
  (g1 : dt f1 f1 ≤ ph) (g2 : dt f2 f2 ≤ ph) (hph : (W1 + W2) * ph ≤ n * (1 - 3 / 7 * f * (2 * (W1 + W2) * (sg * D * (1 + t) + eps)))) :
  (dt a x - (dt b1 y1 + dt b2 y2)) * (dt a x - (dt b1 y1 + dt b2 y2)) ≤ (V * (1 + e) + 3 / 4 + n) * bothJ R1 R2 P Q S r a b1 b2 := by
 have k1 := hP.odd_le H U b1 b2
 have k2 := hQ.odd_le H U b1 b2
 have k3 := hS.odd_le H U b1 b2
 have N0 := nn_nn H b1 b2
 have hX := hI (sb3 a (sc s (mm b1 b2 v1 v2)))
 unfold frm at hX
 rw [dt_sub_sc x, dt_sub_sc P.p, dt_sub_sc Q.p, dt_sub_sc S.p] at hX
 have rc := row_cs H b1 b2 f1 f2
 have w1 := H.w1; have w2 := H.w2
 have hF : (dt b1 f1 + dt b2 f2) * (dt b1 f1 + dt b2 f2) ≤ n * ((1 - 3 / 7 * f * (2 * (W1 + W2) * (sg * D * (1 + t) + eps))) * nn R1 R2 b1 b2) := by
  have z1 := mul_le_l g1 (Rat.le_of_lt w1)
  have z2 := mul_le_l g2 (Rat.le_of_lt w2)
  have z3 : W1 * dt f1 f1 + W2 * dt f2 f2 ≤ n * (1 - 3 / 7 * f * (2 * (W1 + W2) * (sg * D * (1 + t) + eps))) := by grind
  have z4 := mul_le_l z3 N0
  grind
 rw [cr_row] at hy
 have hJ : bothJ R1 R2 P Q S r a b1 b2 = ((dt a P.p - P.w b1 b2) * (dt a P.p - P.w b1 b2) + (dt a Q.p - Q.w b1 b2) * (dt a Q.p - Q.w b1 b2) + (dt a S.p - S.w b1 b2) * (dt a S.p - S.w b1 b2)) / 7 + (((-P.g b1 b2) * (-P.g b1 b2) + (-Q.g b1 b2) * (-Q.g b1 b2) + (-S.g b1 b2) * (-S.g b1 b2)) / 7 - ((-P.g b1 b2 + -Q.g b1 b2 + -S.g b1 b2) / 7) * ((-P.g b1 b2 + -Q.g b1 b2 + -S.g b1 b2) / 7)) + r + nn R1 R2 b1 b2 := by
  unfold bothJ oddJ evnJ sqG mnG
  grind
 have t := joint_first (g1 := -P.g b1 b2) (g2 := -Q.g b1 b2) (g3 := -S.g b1 b2) he hf f0 hV hn r0 k1 k2 k3 hX hF hJ
 have q : dt a x - s * dt x (mm b1 b2 v1 v2) - (-P.g b1 b2 + -Q.g b1 b2 + -S.g b1 b2) / 7 - (dt b1 f1 + dt b2 f2) = dt a x - (dt b1 y1 + dt b2 y2) := by
  rw [hy]; unfold mnG; grind
 rw [q] at t
 exact t
theorem meet_then {R1 R2 W1 W2 t D s sg eps V n e f r ph : Rat} {v1 v2 x y1 y2 f1 f2 a b1 b2 : R3} {P Q S : Vw} (H : Noise R1 R2 W1 W2) (U : Dirs v1 v2 t) (hP : P.Ok v1 v2 D s sg eps) (hQ : Q.Ok v1 v2 D s sg eps) (hS : S.Ok v1 v2 D s sg eps)
  (he : 0 < e) (hf : e * f = 1) (f0 : 0 ≤ f) (hV : 0 < V) (hn : 0 < n) (r0 : 0 ≤ r) (hI : ∀ u, dt u x * dt u x ≤ V * frm P Q S u)
  (hy : dt b1 y1 + dt b2 y2 = (dt b1 f1 + dt b2 f2) - s * (dt b1 (cr x v1) + dt b2 (cr x v2)))
  (g1 : dt f1 f1 ≤ ph) (g2 : dt f2 f2 ≤ ph) (hph : (W1 + W2) * ph ≤ n * (1 - 3 / 7 * f * (2 * (W1 + W2) * (sg * D * (1 + t) + eps)))) :
  (dt a x - (dt b1 y1 + dt b2 y2)) * (dt a x - (dt b1 y1 + dt b2 y2)) ≤ (V * (1 + e) + n) * bothJ R1 R2 P Q S r a b1 b2 := by
 have k1 := hP.odd_le H U b1 b2
 have k2 := hQ.odd_le H U b1 b2
 have k3 := hS.odd_le H U b1 b2
 have N0 := nn_nn H b1 b2
 have hX := hI (sb3 a (sc s (mm b1 b2 v1 v2)))
 unfold frm at hX
 rw [dt_sub_sc x, dt_sub_sc P.p, dt_sub_sc Q.p, dt_sub_sc S.p] at hX
 have rc := row_cs H b1 b2 f1 f2
 have w1 := H.w1; have w2 := H.w2
 have hF : (dt b1 f1 + dt b2 f2) * (dt b1 f1 + dt b2 f2) ≤ n * ((1 - 3 / 7 * f * (2 * (W1 + W2) * (sg * D * (1 + t) + eps))) * nn R1 R2 b1 b2) := by
  have z1 := mul_le_l g1 (Rat.le_of_lt w1)
  have z2 := mul_le_l g2 (Rat.le_of_lt w2)
  have z3 : W1 * dt f1 f1 + W2 * dt f2 f2 ≤ n * (1 - 3 / 7 * f * (2 * (W1 + W2) * (sg * D * (1 + t) + eps))) := by grind
  have z4 := mul_le_l z3 N0
  grind
 rw [cr_row] at hy
 have E0 := evn_nn P Q S b1 b2
 have hJ : bothJ R1 R2 P Q S r a b1 b2 = ((dt a P.p - P.w b1 b2) * (dt a P.p - P.w b1 b2) + (dt a Q.p - Q.w b1 b2) * (dt a Q.p - Q.w b1 b2) + (dt a S.p - S.w b1 b2) * (dt a S.p - S.w b1 b2)) / 7 + (evnJ P Q S b1 b2 + r) + nn R1 R2 b1 b2 := by
  unfold bothJ oddJ
  grind
 have t := joint_then (r := evnJ P Q S b1 b2 + r) he hf f0 hV hn (by grind) k1 k2 k3 hX hF rfl hJ
 have q : dt a x - s * dt x (mm b1 b2 v1 v2) - (dt b1 f1 + dt b2 f2) = dt a x - (dt b1 y1 + dt b2 y2) := by
  rw [hy]; grind
 rw [q] at t
 exact t
theorem both_low {R1 R2 W1 W2 t D s sg eps e f r lo g h : Rat} {v1 v2 a b1 b2 : R3} {P Q S : Vw} (H : Noise R1 R2 W1 W2) (U : Dirs v1 v2 t) (hP : P.Ok v1 v2 D s sg eps) (hQ : Q.Ok v1 v2 D s sg eps) (hS : S.Ok v1 v2 D s sg eps)
  (he : 0 < e) (hf : e * f = 1) (f0 : 0 ≤ f) (r0 : 0 ≤ r) (hI : ∀ u, lo * dt u u ≤ frm P Q S u) (g0 : 0 < g) (hg : g * lo = 1) (hh : 0 < h)
  (hs : s * s * ((W1 + W2) * (1 + t)) ≤ h * ((1 + e) * (1 - 3 / 7 * f * (2 * (W1 + W2) * (sg * D * (1 + t) + eps))))) : dt a a ≤ (g + h) * ((1 + e) * bothJ R1 R2 P Q S r a b1 b2) := by
 have k1 := hP.odd_le H U b1 b2
 have k2 := hQ.odd_le H U b1 b2
 have k3 := hS.odd_le H U b1 b2
 have N0 := nn_nn H b1 b2
 have o := odd_le (dt a P.p) (dt a Q.p) (dt a S.p) (P.w b1 b2) (Q.w b1 b2) (S.w b1 b2) (dt P.p (mm b1 b2 v1 v2)) (dt Q.p (mm b1 b2 v1 v2)) (dt S.p (mm b1 b2 v1 v2)) s _ _ e f he hf f0 k1 k2 k3
 have hX := hI (sb3 a (sc s (mm b1 b2 v1 v2)))
 unfold frm at hX
 rw [dt_sub_sc P.p, dt_sub_sc Q.p, dt_sub_sc S.p] at hX
 have m := mm_le b1 b2 v1 v2 H.e1 H.e2 H.w1 H.w2 U.a U.b
 have E0 := evn_nn P Q S b1 b2
 have hJ : bothJ R1 R2 P Q S r a b1 b2 = ((dt a P.p - P.w b1 b2) * (dt a P.p - P.w b1 b2) + (dt a Q.p - Q.w b1 b2) * (dt a Q.p - Q.w b1 b2) + (dt a S.p - S.w b1 b2) * (dt a S.p - S.w b1 b2)) / 7 + (evnJ P Q S b1 b2 + r) + nn R1 R2 b1 b2 := by
  unfold bothJ oddJ
  grind
 have ss := sc_sq s (mm b1 b2 v1 v2)
 have mq : dt (sc s (mm b1 b2 v1 v2)) (sc s (mm b1 b2 v1 v2)) ≤ h * ((1 + e) * ((1 - 3 / 7 * f * (2 * (W1 + W2) * (sg * D * (1 + t) + eps))) * nn R1 R2 b1 b2)) := by
  rw [ss]
  have y1 := mul_le_l m (sq_nn s)
  have y2 := mul_le_l hs N0
  grind
 have l := low_le a (mm b1 b2 v1 v2) s g h lo ((1 + e) * ((1 - 3 / 7 * f * (2 * (W1 + W2) * (sg * D * (1 + t) + eps))) * nn R1 R2 b1 b2)) g0 hg hh mq
 have gh : 0 ≤ g + h := by grind
 refine Rat.le_trans l (mul_le_l ?_ gh)
 rw [hJ]
 generalize (dt a P.p - P.w b1 b2) * (dt a P.p - P.w b1 b2) + (dt a Q.p - Q.w b1 b2) * (dt a Q.p - Q.w b1 b2) + (dt a S.p - S.w b1 b2) * (dt a S.p - S.w b1 b2) = O at *
 have e1 : 0 ≤ (1 + e) * (evnJ P Q S b1 b2 + r) := Rat.mul_nonneg (by grind) (by grind)
 grind
end Go.Proofs.Ytooehgijllihdaa.Ff
namespace Go.Proofs.Ytooehgijllihdaa.Ff
theorem abs_sq {x t : Rat} (h1 : x ≤ t) (h2 : -t ≤ x) : x * x ≤ t * t := by
 by_cases h : 0 ≤ x
 ·exact sq_le_sq h h1
 ·have := sq_le_sq (show 0 ≤ -x by grind) (show -x ≤ t by grind)
  grind
theorem sq_two_v (a b : R3) : dt (ad a b) (ad a b) ≤ 2 * dt a a + 2 * dt b b := by
 have h1 := sq_two a.x b.x; have h2 := sq_two a.y b.y; have h3 := sq_two a.z b.z
 simp only [dt, ad]; grind
theorem sq_two_s (a b : R3) : dt (sb3 a b) (sb3 a b) ≤ 2 * dt a a + 2 * dt b b := by
 have h1 := sq_two a.x (-b.x); have h2 := sq_two a.y (-b.y); have h3 := sq_two a.z (-b.z)
 simp only [dt, sb3]; grind
theorem chw_le {v1 v2 : R3} {t : Rat} (U : Dirs v1 v2 t) (a : R3) : dt (chw v1 v2 a) (chw v1 v2 a) ≤ 11 * (t * t) * dt a a := by
 have k := sq_two_v (sc (dt v1 v1 - 1) a) (sc (dt a v1) (sb3 (sc (dt v2 v2 - 1) v1) (sc (dt v1 v2) v2)))
 have k2 := sq_two_s (sc (dt v2 v2 - 1) v1) (sc (dt v1 v2) v2)
 rw [sc_sq, sc_sq] at k
 rw [sc_sq, sc_sq] at k2
 have q1 := abs_sq (x := dt v1 v1 - 1) (t := t) (by have := U.a; grind) (by have := U.a'; grind)
 have q2 := abs_sq (x := dt v2 v2 - 1) (t := t) (by have := U.b; grind) (by have := U.b'; grind)
 have q3 := abs_sq U.c U.c'
 have cs := cauchy a v1
 have ua := U.a; have ub := U.b; have t0 := U.t0; have t1 := U.t1
 have n0 := dt_nn a; have n1 := dt_nn v1; have n2 := dt_nn v2
 unfold chw
 generalize dt (sb3 (sc (dt v2 v2 - 1) v1) (sc (dt v1 v2) v2)) (sb3 (sc (dt v2 v2 - 1) v1) (sc (dt v1 v2) v2)) = Z at *
 refine Rat.le_trans k ?_
 have tt := Rat.mul_nonneg t0 t0
 -- Z <= 4 t^2 (1 + t)
 have z1 : Z ≤ 4 * (t * t) * (1 + t) := by
  have a1 := mul_le_l q2 n1
  have a2 := mul_le_l q3 n2
  have a3 := mul_le_l ua tt
  have a4 := mul_le_l ub tt
  grind
 have c1 : dt a v1 * dt a v1 ≤ dt a a * (1 + t) := by
  have := mul_le_l ua n0
  grind
 have c2 : dt a v1 * dt a v1 * Z ≤ dt a a * (1 + t) * (4 * (t * t) * (1 + t)) := by
  have x1 := mul_le_l z1 (sq_nn (dt a v1))
  have x2 := mul_le_l c1 (show 0 ≤ 4 * (t * t) * (1 + t) by have := Rat.mul_nonneg tt t0; grind)
  grind
 have c3 := mul_le_l q1 n0
 have c4 : (1 + t) * (1 + t) ≤ 9 / 8 := by
  have := sq_le_sq (show 0 ≤ 1 + t by grind) (show 1 + t ≤ 1001 / 1000 by grind)
  grind
 have c5 := mul_le_l c4 (Rat.mul_nonneg n0 tt)
 grind
theorem bessel {v1 v2 : R3} {t : Rat} (U : Dirs v1 v2 t) (p : R3) : dt p v1 * dt p v1 + dt p v2 * dt p v2 ≤ (1 + 3 * t) * dt p p := by
 have n := dt_nn (sb3 (sb3 p (sc (dt p v1) v1)) (sc (dt p v2) v2))
 have e : dt (sb3 (sb3 p (sc (dt p v1) v1)) (sc (dt p v2) v2)) (sb3 (sb3 p (sc (dt p v1) v1)) (sc (dt p v2) v2)) = dt p p - 2 * (dt p v1 * dt p v1 + dt p v2 * dt p v2) + dt p v1 * dt p v1 * dt v1 v1 + dt p v2 * dt p v2 * dt v2 v2 + 2 * (dt p v1 * dt p v2) * dt v1 v2 := by
  obtain ⟨a, b, c⟩ := p; obtain ⟨x1, x2, x3⟩ := v1; obtain ⟨x4, x5, x6⟩ := v2
  simp only [dt, sb3, sc]; grind
 rw [e] at n
 have ua := U.a; have ub := U.b; have uc := U.c; have uc' := U.c'; have t0 := U.t0; have t1 := U.t1
 have p0 := dt_nn p
 generalize dt p v1 = α at *
 generalize dt p v2 = β at *
 have x1 := mul_le_l ua (sq_nn α)
 have x2 := mul_le_l ub (sq_nn β)
 have s1 := sq_nn (α - β)
 have s2 := sq_nn (α + β)
 have x3 : 2 * (α * β) * dt v1 v2 ≤ t * (α * α + β * β) := by
  by_cases h : 0 ≤ α * β
  ·have y1 := mul_le_l uc h
   have y2 := mul_le_l (show 2 * (α * β) ≤ α * α + β * β by grind) t0
   grind
  ·have y1 := mul_le_l (show -dt v1 v2 ≤ t by grind) (show 0 ≤ -(α * β) by grind)
   have y2 := mul_le_l (show -(2 * (α * β)) ≤ α * α + β * β by grind) t0
   grind
 have A0 : 0 ≤ α * α + β * β := by have := sq_nn α; have := sq_nn β; grind
 have y : (α * α + β * β) * (1 - 2 * t) ≤ dt p p := by grind
 generalize hA : α * α + β * β = A at *
 have y2 := mul_le_l y (show 0 ≤ 1 + 3 * t by grind)
 have y3 : 1 ≤ (1 - 2 * t) * (1 + 3 * t) := by
  have := mul_le_l t1 t0
  grind
 have y4 := mul_le_l y3 A0
 grind
theorem dbl_cr (b p v : R3) : dt b (cr p (cr p v)) = dt b p * dt p v - dt p p * dt b v := by
 obtain ⟨a1, a2, a3⟩ := b; obtain ⟨p1, p2, p3⟩ := p; obtain ⟨x1, x2, x3⟩ := v
 simp only [dt, cr]; grind
theorem dt_sb (b e c : R3) : dt b (sb3 e c) = dt b e - dt b c := by simp only [dt, sb3]; grind
theorem dt_sc (b e : R3) (c : Rat) : dt b (sc c e) = c * dt b e := by simp only [dt, sc]; grind
theorem Pt.even_le {v1 v2 p o1 o2 e1 e2 : R3} {D s sg eps t R1 R2 W1 W2 e f : Rat} (H : Noise R1 R2 W1 W2) (U : Dirs v1 v2 t) (P : Pt v1 v2 p o1 o2 e1 e2 D s sg eps) (b1 b2 : R3) (h1 : dt b1 v1 = 0) (h2 : dt b2 v2 = 0) (he : 0 < e) (hf : e * f = 1) (f0 : 0 ≤ f) :
  (dt b1 e1 + dt b2 e2) * (dt b1 e1 + dt b2 e2) ≤ (1 + e) / 4 * ((1 + 3 * t) * D) * (dt b1 p * dt b1 p + dt b2 p * dt b2 p) + (1 + f) * ((W1 + W2) * eps) * nn R1 R2 b1 b2 := by
 obtain ⟨c, c0, c1, g1, g2⟩ := P.even
 have r := row_cs H b1 b2 (sb3 e1 (sc c (cr p (cr p v1)))) (sb3 e2 (sc c (cr p (cr p v2))))
 have N0 := nn_nn H b1 b2
 have w1 := H.w1; have w2 := H.w2
 have bs := bessel U p
 have q : dt b1 e1 + dt b2 e2 = c * (dt b1 p * dt p v1 + dt b2 p * dt p v2) + (dt b1 (sb3 e1 (sc c (cr p (cr p v1)))) + dt b2 (sb3 e2 (sc c (cr p (cr p v2))))) := by
  rw [dt_sb, dt_sb, dt_sc, dt_sc, dbl_cr, dbl_cr, h1, h2]; grind
 rw [q]
 have k := split (c * (dt b1 p * dt p v1 + dt b2 p * dt p v2)) (dt b1 (sb3 e1 (sc c (cr p (cr p v1)))) + dt b2 (sb3 e2 (sc c (cr p (cr p v2))))) e f he hf
 have cs2 : (dt b1 p * dt p v1 + dt b2 p * dt p v2) * (dt b1 p * dt p v1 + dt b2 p * dt p v2) ≤ (dt b1 p * dt b1 p + dt b2 p * dt b2 p) * (dt p v1 * dt p v1 + dt p v2 * dt p v2) := by
  have := sq_nn (dt b1 p * dt p v2 - dt b2 p * dt p v1)
  grind
 have pl := P.len
 have t0 := U.t0
 generalize dt b1 p * dt p v1 + dt b2 p * dt p v2 = x at *
 generalize dt p v1 * dt p v1 + dt p v2 * dt p v2 = y at *
 have B0 : 0 ≤ dt b1 p * dt b1 p + dt b2 p * dt b2 p := by have := sq_nn (dt b1 p); have := sq_nn (dt b2 p); grind
 generalize dt b1 p * dt b1 p + dt b2 p * dt b2 p = B at *
 generalize dt (sb3 e1 (sc c (cr p (cr p v1)))) (sb3 e1 (sc c (cr p (cr p v1)))) = u1 at *
 generalize dt (sb3 e2 (sc c (cr p (cr p v2)))) (sb3 e2 (sc c (cr p (cr p v2)))) = u2 at *
 generalize dt b1 (sb3 e1 (sc c (cr p (cr p v1)))) + dt b2 (sb3 e2 (sc c (cr p (cr p v2)))) = z at *
 generalize nn R1 R2 b1 b2 = N at *
 have cc : c * c ≤ 1 / 4 := by have := sq_le_sq c0 c1; grind
 have y1 : y ≤ (1 + 3 * t) * D := by
  have := mul_le_l pl (show 0 ≤ 1 + 3 * t by grind)
  grind
 have xx : x * x ≤ B * ((1 + 3 * t) * D) := by
  have := mul_le_l y1 B0
  grind
 have BD : 0 ≤ B * ((1 + 3 * t) * D) := by have := sq_nn x; grind
 have x2 : (c * x) * (c * x) ≤ 1 / 4 * (B * ((1 + 3 * t) * D)) := by
  have a1 := mul_le_l xx (sq_nn c)
  have a2 := mul_le_l cc BD
  grind
 have zz : z * z ≤ (W1 + W2) * eps * N := by
  have y1 := mul_le_l g1 (Rat.le_of_lt w1)
  have y2 := mul_le_l g2 (Rat.le_of_lt w2)
  have y3 : W1 * u1 + W2 * u2 ≤ (W1 + W2) * eps := by grind
  have := mul_le_l y3 N0
  grind
 have a3 := mul_le_l x2 (show 0 ≤ 1 + e by grind)
 have a4 := mul_le_l zz (show 0 ≤ 1 + f by grind)
 grind
theorem both_up {R1 R2 W1 W2 t D s sg eps e f r up c ez T : Rat} {v1 v2 a : R3} {P Q S : Vw} (H : Noise R1 R2 W1 W2) (U : Dirs v1 v2 t) (hP : P.Ok v1 v2 D s sg eps) (hQ : Q.Ok v1 v2 D s sg eps) (hS : S.Ok v1 v2 D s sg eps)
  (he : 0 < e) (hf : e * f = 1) (f0 : 0 ≤ f) (hI : ∀ u, frm P Q S u ≤ up * dt u u) (up0 : 0 ≤ up) (D0 : 0 ≤ D) (hT : T = (1 + t) * (1 + t) * (1 + t)) (z0 : 0 ≤ sg * D * (1 + t) + eps) (eps0 : 0 ≤ eps)
  (hr : r ≤ ez * nn R1 R2 (ch1 c v1 a) (ch2 c v1 v2 a)) (ez0 : 0 ≤ ez) :
  bothJ R1 R2 P Q S r a (ch1 c v1 a) (ch2 c v1 v2 a) ≤ ((1 + e) * ((1 - s * c) * (1 - s * c)) * up + 2 * (1 + f) * (s * c * (s * c) * (up * (11 * (t * t)))) + (1 + e) / 4 * ((1 + 3 * t) * D) * up * (c * c * T)
   + (1 + 2 * (1 + f) * (3 / 7 * (2 * (W1 + W2) * (sg * D * (1 + t) + eps))) + 3 / 7 * ((1 + f) * ((W1 + W2) * eps)) + ez) * (c * c * (R2 * T))) * dt a a := by
 have hN := ch_nn (c := c) v1 v2 a (Rat.le_of_lt H.r1) H.r2 U.t0 U.a U.b
 have hB := ch_nn (R1 := 1) (R2 := 1) (c := c) v1 v2 a (by decide) (Rat.le_refl) U.t0 U.a U.b
 have hm := ch_m c v1 v2 a
 have u1 := ch1_v c v1 a
 have u2 := ch2_v c v1 v2 a
 have hw := chw_le U a
 rw [← hT] at hN hB
 generalize ch1 c v1 a = b1 at *
 generalize ch2 c v1 v2 a = b2 at *
 generalize chw v1 v2 a = w at *
 have N0 := nn_nn H b1 b2
 have k1 := hP.odd_le H U b1 b2
 have k2 := hQ.odd_le H U b1 b2
 have k3 := hS.odd_le H U b1 b2
 rw [hm] at k1 k2 k3
 have v1' := hP.even_le H U b1 b2 u1 u2 he hf f0
 have v2' := hQ.even_le H U b1 b2 u1 u2 he hf f0
 have v3' := hS.even_le H U b1 b2 u1 u2 he hf f0
 have fa := hI a
 have fw := hI w
 have f1 := hI b1
 have f2 := hI b2
 have w1 := H.w1; have w2 := H.w2
 have a0 := dt_nn a
 -- the odd parts
 have one : ∀ p : R3, ∀ x Z : Rat, (x - s * dt p (sc c (ad a w))) * (x - s * dt p (sc c (ad a w))) ≤ Z →
   (dt a p - x) * (dt a p - x) ≤ (1 + e) * ((1 - s * c) * (1 - s * c)) * (dt a p * dt a p) + 2 * (1 + f) * (s * c * (s * c) * (dt w p * dt w p)) + 2 * (1 + f) * Z := by
  intro p x Z hZ
  have e1 : dt p (sc c (ad a w)) = c * (dt a p + dt w p) := by simp only [dt, sc, ad]; grind
  rw [e1] at hZ
  have e2 : dt a p - x = (1 - s * c) * dt a p + (-(s * c * dt w p) + -(x - s * (c * (dt a p + dt w p)))) := by grind
  rw [e2]
  have l1 := split ((1 - s * c) * dt a p) (-(s * c * dt w p) + -(x - s * (c * (dt a p + dt w p)))) e f he hf
  have l2 := sq_two (-(s * c * dt w p)) (-(x - s * (c * (dt a p + dt w p))))
  have l3 := mul_le_l l2 (show 0 ≤ 1 + f by grind)
  have l4 := mul_le_l hZ (show 0 ≤ 2 * (1 + f) by grind)
  grind
 have o1 := one P.p (P.w b1 b2) _ k1
 have o2 := one Q.p (Q.w b1 b2) _ k2
 have o3 := one S.p (S.w b1 b2) _ k3
 have fa' := mul_le_l fa (show 0 ≤ (1 + e) * ((1 - s * c) * (1 - s * c)) from Rat.mul_nonneg (by grind) (sq_nn _))
 have ff : 0 ≤ 2 * (1 + f) := by grind
 have sc0 : 0 ≤ s * c * (s * c) := sq_nn _
 have fw' : frm P Q S w ≤ up * (11 * (t * t) * dt a a) := by
  have := mul_le_l hw up0
  grind
 have fw2 := mul_le_l fw' (Rat.mul_nonneg ff sc0)
 have hodd : oddJ P Q S a b1 b2 ≤ ((1 + e) * ((1 - s * c) * (1 - s * c)) * up + 2 * (1 + f) * (s * c * (s * c) * (up * (11 * (t * t))))) * dt a a + 2 * (1 + f) * (3 / 7 * (2 * (W1 + W2) * (sg * D * (1 + t) + eps))) * nn R1 R2 b1 b2 := by
  have hd : oddJ P Q S a b1 b2 ≤ (1 + e) * ((1 - s * c) * (1 - s * c)) * frm P Q S a + 2 * (1 + f) * (s * c * (s * c)) * frm P Q S w + 2 * (1 + f) * (3 / 7 * (2 * (W1 + W2) * (sg * D * (1 + t) + eps))) * nn R1 R2 b1 b2 := by
   unfold oddJ frm
   grind
  grind
 -- the even parts
 have hev : evnJ P Q S b1 b2 ≤ (1 + e) / 4 * ((1 + 3 * t) * D) * up * (c * c * T) * dt a a + 3 / 7 * ((1 + f) * ((W1 + W2) * eps)) * nn R1 R2 b1 b2 := by
  have mq := sq_nn (mnG P Q S b1 b2)
  have kD : 0 ≤ (1 + e) / 4 * ((1 + 3 * t) * D) := Rat.mul_nonneg (by grind) (Rat.mul_nonneg (by have := U.t0; grind) D0)
  have f12 : frm P Q S b1 + frm P Q S b2 ≤ up * (c * c * T * dt a a) := by
   have : dt b1 b1 + dt b2 b2 ≤ c * c * T * dt a a := by unfold nn at hB; grind
   have := mul_le_l this up0
   grind
  have f12' := mul_le_l f12 kD
  have hs : sqG P Q S b1 b2 ≤ (1 + e) / 4 * ((1 + 3 * t) * D) * (frm P Q S b1 + frm P Q S b2) + 3 / 7 * ((1 + f) * ((W1 + W2) * eps)) * nn R1 R2 b1 b2 := by
   unfold sqG frm Vw.g
   grind
  unfold evnJ
  grind
 have ww : 0 ≤ W1 + W2 := by grind
 have G0 : 0 ≤ 1 + 2 * (1 + f) * (3 / 7 * (2 * (W1 + W2) * (sg * D * (1 + t) + eps))) + 3 / 7 * ((1 + f) * ((W1 + W2) * eps)) + ez := by
  have x1 := Rat.mul_nonneg ff (Rat.mul_nonneg (show (0 : Rat) ≤ 3 / 7 by grind) (Rat.mul_nonneg (show 0 ≤ 2 * (W1 + W2) by grind) z0))
  have x2 := Rat.mul_nonneg (show (0 : Rat) ≤ 3 / 7 by grind) (Rat.mul_nonneg (show 0 ≤ 1 + f by grind) (Rat.mul_nonneg ww eps0))
  grind
 have hN' := mul_le_l hN G0
 unfold bothJ
 grind
end Go.Proofs.Ytooehgijllihdaa.Ff
namespace Go.Proofs.Ytooehgijllihdaa.Ff
def sr (f : Nat → Rat) : Nat → Rat
 | 0 => 0
 | n + 1 => sr f n + f n
theorem sr_le {f g : Nat → Rat} : ∀ {n : Nat}, (∀ k, k < n → f k ≤ g k) → sr f n ≤ sr g n
 | 0, _ => Rat.le_refl
 | n + 1, h => by have := sr_le (n := n) fun k hk => h k (by omega); have := h n (by omega); simp only [sr]; grind
theorem sr_eq {f g : Nat → Rat} {n : Nat} (h : ∀ k, k < n → f k = g k) : sr f n = sr g n := Rat.le_antisymm (sr_le fun k hk => by rw [h k hk]; exact Rat.le_refl) (sr_le fun k hk => by rw [h k hk]; exact Rat.le_refl)
theorem sr_add (f g : Nat → Rat) : ∀ n, sr (fun k => f k + g k) n = sr f n + sr g n
 | 0 => by simp only [sr]; grind
 | n + 1 => by have := sr_add f g n; simp only [sr]; grind
theorem sr_mul (c : Rat) (f : Nat → Rat) : ∀ n, sr (fun k => c * f k) n = c * sr f n
 | 0 => by simp only [sr]; grind
 | n + 1 => by have := sr_mul c f n; simp only [sr]; grind
theorem sr_nn {f : Nat → Rat} : ∀ {n : Nat}, (∀ k, k < n → 0 ≤ f k) → 0 ≤ sr f n
 | 0, _ => Rat.le_refl
 | n + 1, h => by have := sr_nn (n := n) fun k hk => h k (by omega); have := h n (by omega); simp only [sr]; grind
theorem sr_zero {f : Nat → Rat} {n : Nat} (h : ∀ k, k < n → f k = 0) : sr f n = 0 := by
 have := sr_eq (g := fun _ => 0 * 0) (f := f) (n := n) (fun k hk => by rw [h k hk]; grind)
 rw [this, sr_mul]; grind
theorem sr_one (j : Nat) (c : Rat) : ∀ {n : Nat}, j < n → sr (fun k => if k = j then c else 0) n = c
 | 0, h => by omega
 | n + 1, h => by
  simp only [sr]
  by_cases e : j = n
  ·subst e
   rw [if_pos rfl, sr_zero fun k hk => if_neg (by omega)]; grind
  ·rw [sr_one j c (by omega), if_neg (by omega)]; grind
theorem sr_term {f : Nat → Rat} {j : Nat} : ∀ {n : Nat}, (∀ k, k < n → 0 ≤ f k) → j < n → f j ≤ sr f n
 | 0, _, h => by omega
 | n + 1, h, hj => by
  simp only [sr]
  by_cases e : j = n
  ·subst e; have := sr_nn (n := j) (f := f) fun k hk => h k (by omega); grind
  ·have := sr_term (j := j) (n := n) (fun k hk => h k (by omega)) (by omega); have := h n (by omega); grind
def quad (m : Nat → Nat → Rat) (n : Nat) (a : Nat → Rat) : Rat := sr (fun r => a r * sr (fun s => m r s * a s) n) n
def nrm (n : Nat) (a : Nat → Rat) : Rat := sr (fun r => a r * a r) n
theorem nrm_nn (n : Nat) (a : Nat → Rat) : 0 ≤ nrm n a := sr_nn fun k _ => sq_nn (a k)
theorem quad_sub (m : Nat → Nat → Rat) (l : Nat → Rat) (n : Nat) (a : Nat → Rat) : quad (fun r s => m r s - l r * l s) n a = quad m n a - sr (fun r => l r * a r) n * sr (fun r => l r * a r) n := by
 have e : ∀ r, sr (fun s => (m r s - l r * l s) * a s) n = sr (fun s => m r s * a s) n + (-l r) * sr (fun s => l s * a s) n := fun r => by
  rw [← sr_mul, ← sr_add]
  exact sr_eq fun k _ => by grind
 unfold quad
 have h : ∀ r, a r * sr (fun s => (m r s - l r * l s) * a s) n = a r * sr (fun s => m r s * a s) n + (-(sr (fun s => l s * a s) n)) * (l r * a r) := fun r => by rw [e r]; grind
 rw [sr_eq fun k _ => h k, sr_add, sr_mul]
 grind
def plus (a : Nat → Rat) (j : Nat) (c : Rat) : Nat → Rat := fun k => a k + (if k = j then c else 0)
theorem quad_plus {m : Nat → Nat → Rat} {n j : Nat} (a : Nat → Rat) (c : Rat) (hj : j < n) (sym : ∀ r, r < n → m r j = m j r) : quad m n (plus a j c) = quad m n a + 2 * c * sr (fun s => m j s * a s) n + c * c * m j j := by
 have e : ∀ r, sr (fun s => m r s * plus a j c s) n = sr (fun s => m r s * a s) n + c * m r j := fun r => by
  have : ∀ s, m r s * plus a j c s = m r s * a s + (if s = j then m r j * c else 0) := fun s => by
   unfold plus; by_cases h : s = j
   ·subst h; rw [if_pos rfl, if_pos rfl]; grind
   ·rw [if_neg h, if_neg h]; grind
  rw [sr_eq fun k _ => this k, sr_add, sr_one j _ hj]; grind
 unfold quad
 have h : ∀ r, r < n → plus a j c r * sr (fun s => m r s * plus a j c s) n = (a r * sr (fun s => m r s * a s) n + c * (m j r * a r)) + (if r = j then c * (sr (fun s => m j s * a s) n + c * m j j) else 0) := fun r hr => by
  rw [e r]; unfold plus; by_cases h : r = j
  ·subst h; rw [if_pos rfl, if_pos rfl]; grind
  ·rw [if_neg h, if_neg h, sym r hr]; grind
 rw [sr_eq h, sr_add, sr_add, sr_mul, sr_one j _ hj]
 grind
theorem nrm_plus {n j : Nat} (a : Nat → Rat) (c : Rat) (hj : j < n) (ha : a j = 0) : nrm n (plus a j c) = nrm n a + c * c := by
 unfold nrm
 have h : ∀ r, plus a j c r * plus a j c r = a r * a r + (if r = j then c * c else 0) := fun r => by
  unfold plus; by_cases h : r = j
  ·subst h; rw [if_pos rfl, if_pos rfl, ha]; grind
  ·rw [if_neg h, if_neg h]; grind
 rw [sr_eq fun k _ => h k, sr_add, sr_one j _ hj]
theorem small_row {f a : Nat → Rat} {n : Nat} {e c : Rat} (h : ∀ k, k < n → f k ≤ e ∧ -e ≤ f k ∨ a k = 0) (e0 : 0 ≤ e) : 2 * c * sr (fun s => f s * a s) n ≤ e * (n * (c * c) + nrm n a) := by
 have h2 : ∀ k, k < n → (2 * c) * (f k * a k) ≤ e * (c * c) + e * (a k * a k) := fun k hk => by
  rcases h k hk with ⟨h1, h2⟩ | h1
  ·have s1 := sq_nn (c - a k); have s2 := sq_nn (c + a k)
   by_cases p : 0 ≤ c * a k
   ·have y1 := mul_le_l h1 p
    have y2 := mul_le_l (show 2 * (c * a k) ≤ c * c + a k * a k by grind) e0
    grind
   ·have y1 := mul_le_l (show -f k ≤ e by grind) (show 0 ≤ -(c * a k) by grind)
    have y2 := mul_le_l (show -(2 * (c * a k)) ≤ c * c + a k * a k by grind) e0
    grind
  ·rw [h1]; have := Rat.mul_nonneg e0 (sq_nn c); grind
 have k := sr_le h2
 rw [sr_mul, sr_add, sr_mul e, sr_mul e] at k
 have cn : ∀ n : Nat, sr (fun _ => c * c) n = n * (c * c) := by
  intro n
  induction n with
  | zero => simp only [sr]; grind
  | succ n ih => simp only [sr]; rw [ih]; push_cast; grind
 rw [cn] at k
 unfold nrm
 grind
theorem pivot_step {m : Nat → Nat → Rat} {l a : Nat → Rat} {n j : Nat} {G e : Rat} (hj : j < n) (sym : ∀ r, r < n → m r j = m j r) (lj : l j ≠ 0) (ha : a j = 0)
  (hm : ∀ c, G * nrm n (plus a j c) ≤ quad m n (plus a j c)) (e0 : 0 ≤ e) (hn : (n : Rat) ≤ 6) (hG : 7 * e ≤ G)
  (hs : ∀ k, k < n → (m j k - l j * l k ≤ e ∧ -e ≤ m j k - l j * l k) ∨ (a k = 0 ∧ k ≠ j)) : (G - 7 * e) * nrm n a ≤ quad (fun r s => m r s - l r * l s) n a := by
 have h := hm (-(sr (fun r => l r * a r) n) / l j)
 generalize hc : -(sr (fun r => l r * a r) n) / l j = c at *
 have hz : sr (fun r => l r * plus a j c r) n = 0 := by
  have : ∀ r, l r * plus a j c r = l r * a r + (if r = j then l j * c else 0) := fun r => by
   unfold plus; by_cases h : r = j
   ·subst h; rw [if_pos rfl, if_pos rfl]; grind
   ·rw [if_neg h, if_neg h]; grind
  rw [sr_eq fun k _ => this k, sr_add, sr_one j _ hj, ← hc]
  grind
 have q := quad_sub m l n (plus a j c)
 rw [hz] at q
 have q2 := quad_plus (m := fun r s => m r s - l r * l s) a c hj (fun r hr => by show m r j - l r * l j = m j r - l j * l r; rw [sym r hr]; grind)
 rw [nrm_plus a c hj ha] at h
 have jj : m j j - l j * l j ≤ e := by rcases hs j hj with h | h; exact h.1; exact absurd rfl h.2
 have sm := small_row (f := fun s => m j s - l j * l s) (a := a) (n := n) (e := e) (c := c) (fun k hk => by rcases hs k hk with h | h; exact Or.inl h; exact Or.inr h.1) e0
 have n0 := nrm_nn n a
 have cc := sq_nn c
 have y1 := mul_le_l jj cc
 have y2 : (n : Rat) * (c * c) ≤ 6 * (c * c) := by have := mul_le_l hn cc; grind
 have y3 := mul_le_l y2 e0
 have y4 := mul_le_l hG cc
 have y5 := Rat.mul_nonneg e0 n0
 grind
end Go.Proofs.Ytooehgijllihdaa.Ff
namespace Go.Proofs.Ytooehgijllihdaa.Ff
open Go.RowKit
def qr (x : Int) : Rat := (x : Rat) / 1099511627776
theorem qr_le {x y : Int} (h : x ≤ y) : qr x ≤ qr y := by
 have : (x : Rat) ≤ (y : Rat) := Rat.intCast_le_intCast.2 h
 unfold qr; grind
theorem qr_ab {x K : Int} (h : Ab x K) : qr x ≤ qr K ∧ -qr K ≤ qr x := by
 have h1 := qr_le h.hi; have h2 := qr_le h.lo
 have : qr (-K) = -qr K := by unfold qr; push_cast; grind
 exact ⟨h1, by rw [this] at h2; exact h2⟩
theorem sr_cast (f : Nat → Int) : ∀ n, ((sm f n : Int) : Rat) = sr (fun k => (f k : Rat)) n
 | 0 => rfl
 | n + 1 => by
  show ((sm f n + f n : Int) : Rat) = sr _ n + _
  rw [← sr_cast f n]; push_cast; rfl
structure Pv (m L : Nat → Nat → Int) (a : Nat) : Prop where
 sq : sqrtS false (Am m L a a a) = (L a a, false)
 R : SqrtR (L a a) (Am m L a a a)
 lo : 11900000 ≤ Am m L a a a
 hi : Am m L a a a ≤ 1099511627776
structure Lf (m L : Nat → Nat → Int) (a k : Nat) : Prop where
 dv : divS false (Am m L k a k) (L k k) = (L a k, false)
 R : DivR (L a k) (Am m L k a k) (L k k)
 ub : Ab (L a k) 1099511627776
def Rw (m L : Nat → Nat → Int) (i : Nat) : Prop := ∀ a, a < i → Pv m L a ∧ ∀ k, k < a → Lf m L a k
def RT (m L : Nat → Nat → Int) (i j : Nat) : Prop := ∀ k, k < j → Lf m L i k
theorem Pv.root {m L : Nat → Nat → Int} {a : Nat} (h : Pv m L a) : 3600000000 ≤ L a a ∧ L a a ≤ 1099511627776 := by
 have h1 := h.lo; have h2 := h.hi; have n0 := h.R.n0; have l1 := h.R.lo; have l2 := h.R.hi
 constructor
 ·apply Classical.byContradiction; intro c
  have c' : L a a + 1 ≤ 3600000000 := by omega
  have := Int.mul_le_mul c' c' (by omega) (by decide)
  omega
 ·apply Classical.byContradiction; intro c
  have c' : 1099511627777 ≤ L a a := by omega
  have := Int.mul_le_mul c' c' (by decide) (by omega)
  omega
theorem Rw.ub {m L : Nat → Nat → Int} {i a t : Nat} (R : Rw m L i) (ha : a < i) (ht : t ≤ a) : Ab (L a t) 1099511627776 := by
 by_cases c : t < a
 ·exact ((R a ha).2 t c).ub
 ·have e : t = a := by omega
  subst e
  have := (R t ha).1.root
  exact ⟨by omega, by omega⟩
theorem prods_near {L : Nat → Nat → Int} {a b j : Nat} (ha : ∀ t, t < j → Ab (L a t) 1099511627776) (hb : ∀ t, t < j → Ab (L b t) 1099511627776) : Ab (2 * (sm (pr L a b) j * 1099511627776 - sm (fun t => L a t * L b t) j)) (j * 1099511627776) := by
 have h := sm_near (f := fun t => 2 * (pr L a b t * 1099511627776)) (g := fun t => 2 * (L a t * L b t)) (K := 1099511627776) (n := j) (fun t ht => by
  have r := (mul_is (ha t ht) (hb t ht)).2
  have := r.lo; have := r.hi
  generalize L a t * L b t = x at *
  exact ⟨by omega, by omega⟩)
 rw [sm_mul 2, sm_mul 2, sm_two] at h
 have := h.lo; have := h.hi
 exact ⟨by omega, by omega⟩
theorem ent_near {m L : Nat → Nat → Int} {a j : Nat} (hj6 : j < 6) (ha : ∀ t, t < j → Ab (L a t) 1099511627776) (hb : ∀ t, t < j → Ab (L j t) 1099511627776) (P : Pv m L j) (h : a = j ∨ Lf m L a j) :
  Ab (2 * (m a j * 1099511627776 - sm (fun t => L a t * L j t) (j + 1))) 15393162788864 := by
 have p := prods_near ha hb
 have r := P.root
 show Ab (2 * (m a j * 1099511627776 - (sm (fun t => L a t * L j t) j + L a j * L j j))) _
 have jj : (j : Int) * 1099511627776 ≤ 5 * 1099511627776 := by omega
 have p1 := p.lo; have p2 := p.hi
 have am : Am m L j a j = m a j - sm (pr L a j) j := rfl
 generalize sm (fun t => L a t * L j t) j = X at *
 generalize sm (pr L a j) j = Y at *
 rcases h with rfl | h
 ·have l1 := P.R.lo; have l2 := P.R.hi
  have e2 : (L a a + 1) * (L a a + 1) = L a a * L a a + 2 * L a a + 1 := by grind
  rw [e2] at l2
  rw [am] at l1 l2
  generalize L a a * L a a = Z at *
  exact ⟨by omega, by omega⟩
 ·have d1 := h.R.lo; have d2 := h.R.hi
  rw [am] at d1 d2
  generalize L a j * L j j = Z at *
  exact ⟨by omega, by omega⟩
def e7 : Rat := 7 / 1099511627776
def res (m L : Nat → Nat → Int) (j r s : Nat) : Rat := qr (m r s) - sr (fun t => qr (L r t) * qr (L s t)) j
theorem res_succ (m L : Nat → Nat → Int) (j r s : Nat) : res m L (j + 1) r s = res m L j r s - qr (L r j) * qr (L s j) := by unfold res; simp only [sr]; grind
theorem res_comm {m L : Nat → Nat → Int} {j r s : Nat} (h : m r s = m s r) : res m L j r s = res m L j s r := by
 unfold res; rw [h, sr_eq (f := fun t => qr (L r t) * qr (L s t)) (g := fun t => qr (L s t) * qr (L r t)) fun t _ => by grind]
theorem prod_q (L : Nat → Nat → Int) (a b n : Nat) : sr (fun t => qr (L a t) * qr (L b t)) n = ((sm (fun t => L a t * L b t) n : Int) : Rat) / 1208925819614629174706176 := by
 rw [sr_cast]
 have : ∀ t, qr (L a t) * qr (L b t) = (1 / 1208925819614629174706176) * ((L a t * L b t : Int) : Rat) := fun t => by unfold qr; push_cast; grind
 rw [sr_eq fun t _ => this t, sr_mul]; grind
theorem near_q {x y : Int} (h : Ab (2 * (x * 1099511627776 - y)) 15393162788864) : qr x - (y : Rat) / 1208925819614629174706176 ≤ e7 ∧ -e7 ≤ qr x - (y : Rat) / 1208925819614629174706176 := by
 have h1 : ((2 * (x * 1099511627776 - y) : Int) : Rat) ≤ ((15393162788864 : Int) : Rat) := Rat.intCast_le_intCast.2 h.hi
 have h2 : ((-15393162788864 : Int) : Rat) ≤ ((2 * (x * 1099511627776 - y) : Int) : Rat) := Rat.intCast_le_intCast.2 h.lo
 push_cast at h1 h2
 unfold qr e7
 constructor <;> grind
theorem res_small {m L : Nat → Nat → Int} {a j : Nat} (hj6 : j < 6) (ha : ∀ t, t < j → Ab (L a t) 1099511627776) (hb : ∀ t, t < j → Ab (L j t) 1099511627776) (P : Pv m L j) (h : a = j ∨ Lf m L a j) : res m L (j + 1) a j ≤ e7 ∧ -e7 ≤ res m L (j + 1) a j := by
 have k := near_q (ent_near hj6 ha hb P h)
 unfold res
 rw [prod_q]
 exact k
structure PD (m : Nat → Nat → Int) (lam : Rat) : Prop where
 bd : ∀ a b, a < 6 → b < 6 → Ab (m a b) 274877906944
 sym : ∀ a b, a < 6 → b < 6 → m a b = m b a
 low : ∀ a, lam * nrm 6 a ≤ quad (fun r s => qr (m r s)) 6 a
 lam : 12000000 / 1099511627776 ≤ lam
theorem quad_eq {m m' : Nat → Nat → Rat} {n : Nat} (a : Nat → Rat) (h : ∀ r s, m r s = m' r s) : quad m n a = quad m' n a := by
 have : m = m' := by funext r s; exact h r s
 rw [this]
theorem qd_to {m L : Nat → Nat → Int} {lam : Rat} {i : Nat} (H : PD m lam) (hi : i < 6) (R : Rw m L i) : ∀ {j : Nat}, RT m L i j → j ≤ i → ∀ a : Nat → Rat, (∀ k, k < j ∨ i < k → a k = 0) → (lam - 7 * j * e7) * nrm 6 a ≤ quad (res m L j) 6 a
 | 0, _, _, a, _ => by
  have h := H.low a
  rw [quad_eq (m := res m L 0) (m' := fun r s => qr (m r s)) a fun r s => by unfold res; simp only [sr]; grind]
  have : (lam - 7 * ((0 : Nat) : Rat) * e7) = lam := by push_cast; grind
  rw [this]; exact h
 | j + 1, T, hj, a, ha => by
  have ih := qd_to H hi R (j := j) (fun k hk => T k (by omega)) (by omega)
  have P := (R j (by omega)).1
  have rt := P.root
  have hL := H.lam
  have jr : (j : Rat) ≤ 5 := by
   have : ((j : Int) : Rat) ≤ ((5 : Int) : Rat) := Rat.intCast_le_intCast.2 (by omega)
   push_cast at this; exact this
  have e7v : e7 = 7 / 1099511627776 := rfl
  have st := pivot_step (m := res m L j) (l := fun r => qr (L r j)) (a := a) (n := 6) (j := j) (G := lam - 7 * j * e7) (e := e7) (by omega) (fun r hr => res_comm (H.sym r j hr (by omega)))
   (by
    have : qr 3600000000 ≤ qr (L j j) := qr_le rt.1
    have : qr 3600000000 = 3600000000 / 1099511627776 := by unfold qr; push_cast; rfl
    intro h; grind)
   (ha j (by omega)) (fun c => ih (plus a j c) (fun k hk => by
    unfold plus
    rw [if_neg (by omega), ha k (by omega)]; grind))
   (by rw [e7v]; grind) (by decide) (by rw [e7v]; grind)
   (fun k hk => by
    by_cases c : k < j
    ·exact Or.inr ⟨ha k (by omega), by omega⟩
    by_cases c2 : i < k
    ·exact Or.inr ⟨ha k (by omega), by omega⟩
    left
    have sm := res_small (m := m) (L := L) (a := k) (j := j) (by omega) (fun t ht => by
      by_cases c3 : k = i
      ·subst c3; exact (T t (by omega)).ub
      ·exact R.ub (show k < i by omega) (by omega)) (fun t ht => R.ub (show j < i by omega) (by omega)) P
     (by
      by_cases c3 : k = j
      ·exact Or.inl c3
      ·right
       by_cases c4 : k = i
       ·subst c4; exact T j (by omega)
       ·exact (R k (by omega)).2 j (by omega))
    rw [res_succ, res_comm (H.sym k j hk (by omega))] at sm
    constructor <;> grind)
  rw [quad_eq (m := res m L (j + 1)) (m' := fun r s => res m L j r s - qr (L r j) * qr (L s j)) a fun r s => res_succ m L j r s]
  have : (lam - 7 * ((j + 1 : Nat) : Rat) * e7) = lam - 7 * j * e7 - 7 * e7 := by push_cast; grind
  rw [this]; exact st
end Go.Proofs.Ytooehgijllihdaa.Ff
namespace Go.Proofs.Ytooehgijllihdaa.Ff
open Go.RowKit
structure Nr (x y e : Rat) : Prop where
 hi : x - y ≤ e
 lo : -e ≤ x - y
theorem Nr.le {x y e f : Rat} (h : Nr x y e) (k : e ≤ f) : Nr x y f := ⟨by have := h.hi; grind, by have := h.lo; grind⟩
theorem Nr.add {x y e a b f : Rat} (h : Nr x y e) (k : Nr a b f) : Nr (x + a) (y + b) (e + f) := ⟨by have := h.hi; have := k.hi; grind, by have := h.lo; have := k.lo; grind⟩
theorem Nr.sub {x y e a b f : Rat} (h : Nr x y e) (k : Nr a b f) : Nr (x - a) (y - b) (e + f) := ⟨by have := h.hi; have := k.lo; grind, by have := h.lo; have := k.hi; grind⟩
theorem Nr.neg {x y e : Rat} (h : Nr x y e) : Nr (-x) (-y) e := ⟨by have := h.lo; grind, by have := h.hi; grind⟩
theorem Nr.trans {x y z e f : Rat} (h : Nr x y e) (k : Nr y z f) : Nr x z (e + f) := ⟨by have := h.hi; have := k.hi; grind, by have := h.lo; have := k.lo; grind⟩
theorem Nr.symm {x y e : Rat} (h : Nr x y e) : Nr y x e := ⟨by have := h.lo; grind, by have := h.hi; grind⟩
theorem Nr.refl (x : Rat) : Nr x x 0 := ⟨by grind, by grind⟩
theorem Nr.nn {x y e : Rat} (h : Nr x y e) : 0 ≤ e := by have := h.hi; have := h.lo; grind
theorem Nr.scale {x y e a c : Rat} (h : Nr x y e) (h1 : a ≤ c) (h2 : -c ≤ a) : Nr (a * x) (a * y) (c * e) := by
 have e0 := h.nn
 have hh := h.hi; have hl := h.lo
 have c0 : 0 ≤ c := by grind
 have k1 := mul_le_l h1 e0
 have k2 := mul_le_l (show -a ≤ c by grind) e0
 by_cases p : 0 ≤ a
 ·have m1 := mul_le_l hh p
  have m2 := mul_le_l hl p
  exact ⟨by grind, by grind⟩
 ·have p' : 0 ≤ -a := by grind
  have m1 := mul_le_l hh p'
  have m2 := mul_le_l hl p'
  exact ⟨by grind, by grind⟩
theorem Nr.mul {x y e a b f c d : Rat} (h : Nr x y e) (k : Nr a b f) (h1 : x ≤ c) (h2 : -c ≤ x) (k1 : b ≤ d) (k2 : -d ≤ b) : Nr (x * a) (y * b) (c * f + d * e) := by
 have s1 := k.scale h1 h2
 have s2 := h.scale k1 k2
 have : Nr (x * b) (y * b) (d * e) := by
  have e1 : x * b = b * x := by grind
  have e2 : y * b = b * y := by grind
  rw [e1, e2]; exact s2
 exact s1.trans this
theorem qr_zero' : qr 0 = 0 := by unfold qr; push_cast; grind
theorem ab_one' {x : Int} (h : Ab x 1099511627776) : qr x ≤ 1 ∧ -1 ≤ qr x := by
 have := qr_ab h
 have e : qr 1099511627776 = 1 := by unfold qr; push_cast; grind
 rw [e] at this; exact this
theorem one_q : qr 1099511627776 = 1 := by unfold qr; push_cast; grind
theorem mul_qn {p a b : Int} (h : Ab (2 * (p * 1099511627776 - a * b)) 1099511627776) : Nr (qr p) (qr a * qr b) (1 / 2199023255552) := by
 have h1 : ((2 * (p * 1099511627776 - a * b) : Int) : Rat) ≤ ((1099511627776 : Int) : Rat) := Rat.intCast_le_intCast.2 h.hi
 have h2 : ((-1099511627776 : Int) : Rat) ≤ ((2 * (p * 1099511627776 - a * b) : Int) : Rat) := Rat.intCast_le_intCast.2 h.lo
 push_cast at h1 h2
 unfold qr
 constructor <;> grind
theorem div_qn {q a b : Int} (h : Ab (2 * (q * b - a * 1099511627776)) b) : Nr (qr q * qr b) (qr a) (qr b / 2199023255552) := by
 have h1 : ((2 * (q * b - a * 1099511627776) : Int) : Rat) ≤ ((b : Int) : Rat) := Rat.intCast_le_intCast.2 h.hi
 have h2 : ((-b : Int) : Rat) ≤ ((2 * (q * b - a * 1099511627776) : Int) : Rat) := Rat.intCast_le_intCast.2 h.lo
 push_cast at h1 h2
 unfold qr
 constructor <;> grind
theorem diff_qn {x y K : Int} (h : Ab (x - y) K) : Nr (qr x) (qr y) (qr K) := by
 have h1 : ((x - y : Int) : Rat) ≤ ((K : Int) : Rat) := Rat.intCast_le_intCast.2 h.hi
 have h2 : ((-K : Int) : Rat) ≤ ((x - y : Int) : Rat) := Rat.intCast_le_intCast.2 h.lo
 push_cast at h1 h2
 unfold qr
 constructor <;> grind
theorem qr_sub (a b : Int) : qr (a - b) = qr a - qr b := by unfold qr; push_cast; grind
theorem qr_add (a b : Int) : qr (a + b) = qr a + qr b := by unfold qr; push_cast; grind
theorem qr_neg (a : Int) : qr (-a) = -qr a := by unfold qr; push_cast; grind
theorem qr_mulc (k a : Int) : qr (k * a) = (k : Rat) * qr a := by unfold qr; push_cast; grind
def rv (p0 p1 p2 : Int) : R3 := ⟨qr p0, qr p1, qr p2⟩
theorem unit_qn {u g n : Int} (h : Uof u g n) (hn : Ab (n - 1099511627776) 4) : Nr (qr u) (qr g) (5 / 1099511627776) := by
 have d := div_qn (uof_ab h)
 have n1 := diff_qn hn
 rw [one_q] at n1
 have e4 : qr 4 = 4 / 1099511627776 := by unfold qr; push_cast; rfl
 rw [e4] at n1
 have ub := qr_ab (⟨h.lo, h.hi⟩ : Ab u 1099511627776)
 rw [one_q] at ub
 have s := n1.scale ub.1 ub.2
 have dh := d.hi; have dl := d.lo; have sh := s.hi; have sl := s.lo; have nh := n1.hi
 constructor <;> grind
theorem rod_near {p0 p1 p2 : Int} (h0 : Ab p0 1099511627776) (h1 : Ab p1 1099511627776) (h2 : Ab p2 1099511627776) :
  ∃ u0 u1 u2 u3, qFromRodS false (p0, p1, p2) = ((u0, u1, u2, u3), false) ∧ U4 u0 u1 u2 u3 ∧
   Nr ((16 + dt (rv p0 p1 p2) (rv p0 p1 p2)) * qr u0) (8 * qr p0) (128 / 1099511627776) ∧ Nr ((16 + dt (rv p0 p1 p2) (rv p0 p1 p2)) * qr u1) (8 * qr p1) (128 / 1099511627776) ∧
   Nr ((16 + dt (rv p0 p1 p2) (rv p0 p1 p2)) * qr u2) (8 * qr p2) (128 / 1099511627776) ∧ Nr ((16 + dt (rv p0 p1 p2) (rv p0 p1 p2)) * qr u3) (16 - dt (rv p0 p1 p2) (rv p0 p1 p2)) (128 / 1099511627776) := by
 obtain ⟨d, ed, bd, nd⟩ := dot_near h0 h1 h2 h0 h1 h2
 have sq0 := sq_nonneg p0
 have sq1 := sq_nonneg p1
 have sq2 := sq_nonneg p2
 have dl : -1 ≤ d := by have := nd.lo; omega
 have du : d ≤ 3298534883331 := bd.hi
 have ee := add_near (⟨by decide, by decide⟩ : Ab 17592186044416 17592186044416) bd (by decide) (by decide) (by decide)
 have es := sub_near (⟨by decide, by decide⟩ : Ab 17592186044416 17592186044416) bd (by decide) (by decide) (by decide)
 have o0 : mulS false p0 8796093022208 = (8 * p0, false) := times_near (k := 8) h0 (by decide) (⟨by decide, by decide⟩ : Ab (1099511627776 * 8) 8796093022208) (by decide)
 have o1 : mulS false p1 8796093022208 = (8 * p1, false) := times_near (k := 8) h1 (by decide) (⟨by decide, by decide⟩ : Ab (1099511627776 * 8) 8796093022208) (by decide)
 have o2 : mulS false p2 8796093022208 = (8 * p2, false) := times_near (k := 8) h2 (by decide) (⟨by decide, by decide⟩ : Ab (1099511627776 * 8) 8796093022208) (by decide)
 have k8 : Ab (8 : Int) 8 := ⟨by decide, by decide⟩
 obtain ⟨q0, f0, R0⟩ := div_near (b := 17592186044416 + d) (k8.mul h0) (by decide) (by omega) (by omega) (by omega)
 obtain ⟨q1, f1, R1⟩ := div_near (b := 17592186044416 + d) (k8.mul h1) (by decide) (by omega) (by omega) (by omega)
 obtain ⟨q2, f2, R2⟩ := div_near (b := 17592186044416 + d) (k8.mul h2) (by decide) (by omega) (by omega) (by omega)
 obtain ⟨qw, fw, Rw⟩ := div_near (a := 17592186044416 - d) (b := 17592186044416 + d) (K := 18691697672192) ⟨by omega, by omega⟩ (by decide) (by omega) (by omega) (by omega)
 have l0 := h0.lo; have u0 := h0.hi; have l1 := h1.lo; have u1 := h1.hi; have l2 := h2.lo; have u2 := h2.hi
 have b0 : Ab q0 1099511627776 := quot_bd R0 (by omega) (by omega) (by omega)
 have b1 : Ab q1 1099511627776 := quot_bd R1 (by omega) (by omega) (by omega)
 have b2 : Ab q2 1099511627776 := quot_bd R2 (by omega) (by omega) (by omega)
 have bw : Ab qw 2199023255552 := quot_bd Rw (by omega) (by omega) (by omega)
 have big : 549755813888 ≤ qw := by
  by_cases c : 549755813888 ≤ qw
  ·exact c
  ·have := Int.mul_le_mul_of_nonneg_right (by omega : qw ≤ 549755813887) (by omega : 0 ≤ 17592186044416 + d)
   have := Rw.lo
   omega
 have SQ := rod_sum h0 h1 h2 dl du nd R0 R1 R2 Rw
 obtain ⟨n, v0, v1, v2, v3, n0, _, _, _, _, n1, n2, V0, V1, V2, V3, eu⟩ := unit_full (b0.le (by decide)) (b1.le (by decide)) (b2.le (by decide)) (bw.le (by decide)) (Or.inr (Or.inr (Or.inr big)))
 have hn : Ab (n - 1099511627776) 4 := by
  have := SQ.lo; have := SQ.hi
  constructor
  ·by_cases c : -4 ≤ n - 1099511627776
   ·exact c
   ·have := sq_mono (by omega : 0 ≤ n + 2) (by omega : n + 2 ≤ 1099511627773)
    have m : (n + 2) * (n + 2) = n * n + 4 * n + 4 := by grind
    omega
  ·by_cases c : n - 1099511627776 ≤ 4
   ·exact c
   ·have := sq_mono (by omega : (0 : Int) ≤ 1099511627780) (by omega : 1099511627780 ≤ n)
    omega
 have nl := hn.lo
 have nh := hn.hi
 have v3p : ¬ v3 < 0 := by
  intro c
  have := V3.dn
  have := Int.mul_le_mul_of_nonneg_right (show v3 ≤ -1 by omega) (show 0 ≤ n by omega)
  omega
 rw [if_neg v3p] at eu
 have ef : qFromRodS false (p0, p1, p2) = ((v0, v1, v2, v3), false) := by
  unfold qFromRodS
  simp only [ed, ee, es, o0, o1, o2, f0, f1, f2, fw, eu]
 have UU : U4 v0 v1 v2 v3 := by
  rcases unit_math (q0, q1, q2, qw) with h | ⟨w0, w1, w2, w3, h, U⟩
  ·rw [eu] at h
   simp only [Prod.mk.injEq] at h
   exact absurd h.2 (by decide)
  ·rw [eu] at h
   simp only [Prod.mk.injEq] at h
   obtain ⟨⟨rfl, rfl, rfl, rfl⟩, _⟩ := h
   exact U
 -- d is the square's length
 have hd : Nr (qr d) (dt (rv p0 p1 p2) (rv p0 p1 p2)) (2 / 1099511627776) := by
  have h1 : ((d * 1099511627776 - (p0 * p0 + p1 * p1 + p2 * p2) : Int) : Rat) ≤ ((1649267441664 : Int) : Rat) := Rat.intCast_le_intCast.2 nd.hi
  have h2 : ((-1649267441664 : Int) : Rat) ≤ ((d * 1099511627776 - (p0 * p0 + p1 * p1 + p2 * p2) : Int) : Rat) := Rat.intCast_le_intCast.2 nd.lo
  push_cast at h1 h2
  unfold dt rv qr
  constructor <;> grind
 have e16 : qr 17592186044416 = 16 := by unfold qr; push_cast; grind
 have d16 : qr (17592186044416 + d) = 16 + qr d := by rw [qr_add, e16]
 have dle : qr d ≤ 301 / 100 := by
  have := qr_le du
  have e : qr 3298534883331 = 3298534883331 / 1099511627776 := by unfold qr; push_cast; rfl
  rw [e] at this; grind
 have dge : -(1 / 100) ≤ qr d := by
  have := qr_le dl
  have e : qr (-1) = -1 / 1099511627776 := by unfold qr; push_cast; rfl
  rw [e] at this; grind
 generalize hD : dt (rv p0 p1 p2) (rv p0 p1 p2) = D at *
 have part : ∀ u q a : Int, Uof u q n → Ab (2 * (q * (17592186044416 + d) - a * 1099511627776)) (17592186044416 + d) → Nr ((16 + D) * qr u) (qr a) (120 / 1099511627776) := fun u q a hu hq => by
  have x1 := div_qn hq
  rw [d16] at x1
  have x2 := unit_qn hu hn
  have x3 := x2.scale (a := 16 + qr d) (c := 20) (by grind) (by grind)
  have ub := qr_ab (⟨hu.lo, hu.hi⟩ : Ab u 1099511627776)
  rw [one_q] at ub
  have x4 := hd.scale ub.1 ub.2
  have a1 := x1.hi; have a2 := x1.lo; have a3 := x3.hi; have a4 := x3.lo; have a5 := x4.hi; have a6 := x4.lo
  constructor <;> grind
 have c0 := part v0 q0 (8 * p0) V0 R0
 have c1 := part v1 q1 (8 * p1) V1 R1
 have c2 := part v2 q2 (8 * p2) V2 R2
 have c3 := part v3 qw (17592186044416 - d) V3 Rw
 rw [qr_mulc] at c0 c1 c2
 rw [qr_sub, e16] at c3
 push_cast at c0 c1 c2
 refine ⟨v0, v1, v2, v3, ef, UU, c0.le (by grind), c1.le (by grind), c2.le (by grind), ?_⟩
 have h := hd.hi; have h' := hd.lo; have k := c3.hi; have k' := c3.lo
 constructor <;> grind
def trn (a : R3) (s : Rat) (v : R3) : R3 := sb3 (ad v (sc 2 (cr a (cr a v)))) (sc (2 * s) (cr a v))
structure Nr3 (x y : R3) (e : Rat) : Prop where
 a : Nr x.x y.x e
 b : Nr x.y y.y e
 c : Nr x.z y.z e
theorem Nr3.trans {x y z : R3} {e f : Rat} (h : Nr3 x y e) (k : Nr3 y z f) : Nr3 x z (e + f) := ⟨h.a.trans k.a, h.b.trans k.b, h.c.trans k.c⟩
theorem Nr3.le {x y : R3} {e f : Rat} (h : Nr3 x y e) (k : e ≤ f) : Nr3 x y f := ⟨h.a.le k, h.b.le k, h.c.le k⟩
theorem Nr3.symm {x y : R3} {e : Rat} (h : Nr3 x y e) : Nr3 y x e := ⟨h.a.symm, h.b.symm, h.c.symm⟩
theorem Nr3.sq {x y : R3} {e : Rat} (h : Nr3 x y e) : dt (sb3 x y) (sb3 x y) ≤ 3 * (e * e) := by
 have h1 := abs_sq h.a.hi h.a.lo; have h2 := abs_sq h.b.hi h.b.lo; have h3 := abs_sq h.c.hi h.c.lo
 simp only [dt, sb3]; grind
theorem tnc_q {r a0 a1 a2 s v0 v1 v2 : Int} (h : Ab (1208925819614629174706176 * r - tnc a0 a1 a2 s v0 v1 v2) (2417851639229258349412352 + 6597069766656 * 1099511627776)) :
  Nr (qr r) (qr v0 + 2 * (qr a1 * (qr a0 * qr v1 - qr a1 * qr v0) - qr a2 * (qr a2 * qr v0 - qr a0 * qr v2)) - 2 * qr s * (qr a1 * qr v2 - qr a2 * qr v1)) (8 / 1099511627776) := by
 have h1 : ((1208925819614629174706176 * r - tnc a0 a1 a2 s v0 v1 v2 : Int) : Rat) ≤ ((2417851639229258349412352 + 6597069766656 * 1099511627776 : Int) : Rat) := Rat.intCast_le_intCast.2 h.hi
 have h2 : ((-(2417851639229258349412352 + 6597069766656 * 1099511627776) : Int) : Rat) ≤ ((1208925819614629174706176 * r - tnc a0 a1 a2 s v0 v1 v2 : Int) : Rat) := Rat.intCast_le_intCast.2 h.lo
 unfold tnc qfc at h1 h2
 push_cast at h1 h2
 unfold qr
 constructor <;> grind
theorem turn_q {a0 a1 a2 s v0 v1 v2 : Int} (U : U4 a0 a1 a2 s) (hv0 : Ab v0 17592186044416) (hv1 : Ab v1 17592186044416) (hv2 : Ab v2 17592186044416) :
  ∃ r0 r1 r2, qTurnS false (a0, a1, a2, s) (v0, v1, v2) = ((r0, r1, r2), false) ∧ Nr3 (rv r0 r1 r2) (trn (rv a0 a1 a2) (qr s) (rv v0 v1 v2)) (8 / 1099511627776) := by
 obtain ⟨r0, r1, r2, e, n0, n1, n2⟩ := turn_near U.a0 U.a1 U.a2 U.a3 (by decide) hv0 hv1 hv2
 refine ⟨r0, r1, r2, e, ?_, ?_, ?_⟩
 ·have k := tnc_q n0; have h := k.hi; have l := k.lo
  constructor <;> (simp only [rv, trn, sb3, ad, sc, cr]; grind)
 ·have k := tnc_q n1; have h := k.hi; have l := k.lo
  constructor <;> (simp only [rv, trn, sb3, ad, sc, cr]; grind)
 ·have k := tnc_q n2; have h := k.hi; have l := k.lo
  constructor <;> (simp only [rv, trn, sb3, ad, sc, cr]; grind)
theorem trn_dt (a : R3) (s : Rat) (v w : R3) : dt (trn a s v) (trn a s w) = dt v w + 4 * dt (cr a v) (cr a w) * (dt a a + s * s - 1) := by
 obtain ⟨a1, a2, a3⟩ := a; obtain ⟨x1, x2, x3⟩ := v; obtain ⟨y1, y2, y3⟩ := w
 simp only [dt, trn, sb3, ad, sc, cr]; grind
theorem u4_q {a0 a1 a2 s : Int} (U : U4 a0 a1 a2 s) : Nr (dt (rv a0 a1 a2) (rv a0 a1 a2) + qr s * qr s) 1 (13 / 1099511627776) := by
 have h1 : ((a0 * a0 + a1 * a1 + a2 * a2 + s * s - 1208925819614629174706176 : Int) : Rat) ≤ ((14293651161088 : Int) : Rat) := Rat.intCast_le_intCast.2 U.len.hi
 have h2 : ((-14293651161088 : Int) : Rat) ≤ ((a0 * a0 + a1 * a1 + a2 * a2 + s * s - 1208925819614629174706176 : Int) : Rat) := Rat.intCast_le_intCast.2 U.len.lo
 push_cast at h1 h2
 unfold dt rv qr
 constructor <;> grind
end Go.Proofs.Ytooehgijllihdaa.Ff
namespace Go.Proofs.Ytooehgijllihdaa.Ff
open Go.RowKit
def hxv (p v : R3) : R3 := sb3 (ad v (sc (128 / ((16 + dt p p) * (16 + dt p p))) (cr p (cr p v)))) (sc (16 * (16 - dt p p) / ((16 + dt p p) * (16 + dt p p))) (cr p v))
def shp (a1 a2 a0 s y0 y1 y2 : Rat) : Rat := 2 * (a1 * (a0 * y1 - a1 * y0) - a2 * (a2 * y0 - a0 * y2)) - 2 * (s * (a1 * y2 - a2 * y1))
theorem shp_near {a0 a1 a2 s p0 p1 p2 q y0 y1 y2 E : Rat} (h0 : Nr a0 p0 E) (h1 : Nr a1 p1 E) (h2 : Nr a2 p2 E) (hs : Nr s q E)
  (b1 : a1 ≤ 20 ∧ -20 ≤ a1) (b2 : a2 ≤ 20 ∧ -20 ≤ a2) (bs : s ≤ 20 ∧ -20 ≤ s) (c0 : p0 ≤ 8 ∧ -8 ≤ p0) (c1 : p1 ≤ 8 ∧ -8 ≤ p1) (c2 : p2 ≤ 8 ∧ -8 ≤ p2)
  (d0 : y0 ≤ 2 ∧ -2 ≤ y0) (d1 : y1 ≤ 2 ∧ -2 ≤ y1) (d2 : y2 ≤ 2 ∧ -2 ≤ y2) : Nr (shp a1 a2 a0 s y0 y1 y2) (shp p1 p2 p0 q y0 y1 y2) (700 * E) := by
 have m10 := (h1.mul h0 b1.1 b1.2 c0.1 c0.2).scale d1.1 d1.2
 have m11 := (h1.mul h1 b1.1 b1.2 c1.1 c1.2).scale d0.1 d0.2
 have m22 := (h2.mul h2 b2.1 b2.2 c2.1 c2.2).scale d0.1 d0.2
 have m20 := (h2.mul h0 b2.1 b2.2 c0.1 c0.2).scale d2.1 d2.2
 have s1 := (hs.mul h1 bs.1 bs.2 c1.1 c1.2).scale d2.1 d2.2
 have s2 := (hs.mul h2 bs.1 bs.2 c2.1 c2.2).scale d1.1 d1.2
 have E0 := h0.nn
 unfold shp
 have t1 := m10.hi; have t2 := m10.lo; have t3 := m11.hi; have t4 := m11.lo; have t5 := m22.hi; have t6 := m22.lo; have t7 := m20.hi; have t8 := m20.lo; have t9 := s1.hi; have t10 := s1.lo; have t11 := s2.hi; have t12 := s2.lo
 constructor <;> grind
theorem trn_hxv {a p y : R3} {s E : Rat} (D0 : 0 ≤ dt p p) (D3 : dt p p ≤ 31 / 10) (h0 : Nr ((16 + dt p p) * a.x) (8 * p.x) E) (h1 : Nr ((16 + dt p p) * a.y) (8 * p.y) E) (h2 : Nr ((16 + dt p p) * a.z) (8 * p.z) E) (hs : Nr ((16 + dt p p) * s) (16 - dt p p) E)
  (b0 : a.x ≤ 1 ∧ -1 ≤ a.x) (b1 : a.y ≤ 1 ∧ -1 ≤ a.y) (b2 : a.z ≤ 1 ∧ -1 ≤ a.z) (bs : s ≤ 1 ∧ -1 ≤ s) (c0 : p.x ≤ 1 ∧ -1 ≤ p.x) (c1 : p.y ≤ 1 ∧ -1 ≤ p.y) (c2 : p.z ≤ 1 ∧ -1 ≤ p.z)
  (d0 : y.x ≤ 2 ∧ -2 ≤ y.x) (d1 : y.y ≤ 2 ∧ -2 ≤ y.y) (d2 : y.z ≤ 2 ∧ -2 ≤ y.z) : Nr3 (trn a s y) (hxv p y) (3 * E) := by
 have big : ∀ x : Rat, x ≤ 1 ∧ -1 ≤ x → (16 + dt p p) * x ≤ 20 ∧ -20 ≤ (16 + dt p p) * x := fun x hx => by
  have g0 : 0 ≤ 16 + dt p p := by grind
  have m1 := mul_le_l hx.1 g0
  have m2 := mul_le_l hx.2 g0
  constructor <;> grind
 have E0 := h0.nn
 generalize hD : dt p p = D at *
 obtain ⟨G, hG⟩ : ∃ G, G = 16 + D := ⟨_, rfl⟩
 have Gn : G ≠ 0 := by rw [hG]; grind
 have GG : 256 ≤ G * G := by have := sq_le_sq (show (0 : Rat) ≤ 16 by decide) (show 16 ≤ G by rw [hG]; grind); grind
 rw [← hG] at h0 h1 h2 hs big
 obtain ⟨i, hi⟩ : ∃ i, i = (G * G)⁻¹ := ⟨_, rfl⟩
 have iG : (G * G) * i = 1 := by rw [hi]; grind
 have i0 : 0 < i := by
  apply Classical.byContradiction; intro c
  have := mul_le_l (show i ≤ 0 by grind) (show 0 ≤ G * G by grind)
  grind
 have i1 : i ≤ 1 / 256 := by
  have := mul_le_l GG (Rat.le_of_lt i0)
  grind
 have key : ∀ a0 a1 a2 p0 p1 p2 y0 y1 y2 : Rat, Nr (G * a0) (8 * p0) E → Nr (G * a1) (8 * p1) E → Nr (G * a2) (8 * p2) E → (a0 ≤ 1 ∧ -1 ≤ a0) → (a1 ≤ 1 ∧ -1 ≤ a1) → (a2 ≤ 1 ∧ -1 ≤ a2) → (p0 ≤ 1 ∧ -1 ≤ p0) → (p1 ≤ 1 ∧ -1 ≤ p1) → (p2 ≤ 1 ∧ -1 ≤ p2) → (y0 ≤ 2 ∧ -2 ≤ y0) → (y1 ≤ 2 ∧ -2 ≤ y1) → (y2 ≤ 2 ∧ -2 ≤ y2) →
   Nr (y0 + i * shp (G * a1) (G * a2) (G * a0) (G * s) y0 y1 y2) (y0 + i * shp (8 * p1) (8 * p2) (8 * p0) (16 - D) y0 y1 y2) (3 * E) := fun a0 a1 a2 p0 p1 p2 y0 y1 y2 k0 k1 k2 e0 e1 e2 f0 f1 f2 g0 g1 g2 => by
  have n := shp_near k0 k1 k2 hs (big a1 e1) (big a2 e2) (big s bs) ⟨by grind, by grind⟩ ⟨by grind, by grind⟩ ⟨by grind, by grind⟩ g0 g1 g2
  have m := n.scale i1 (by grind)
  have := m.hi; have := m.lo
  constructor <;> grind
 have kx := key a.x a.y a.z p.x p.y p.z y.x y.y y.z h0 h1 h2 b0 b1 b2 c0 c1 c2 d0 d1 d2
 have ky := key a.y a.z a.x p.y p.z p.x y.y y.z y.x h1 h2 h0 b1 b2 b0 c1 c2 c0 d1 d2 d0
 have kz := key a.z a.x a.y p.z p.x p.y y.z y.x y.y h2 h0 h1 b2 b0 b1 c2 c0 c1 d2 d0 d1
 have ia : ∀ q a0 a1 a2 y0 y1 y2 : Rat, i * shp (G * a1) (G * a2) (G * a0) (G * q) y0 y1 y2 = shp a1 a2 a0 q y0 y1 y2 := fun q a0 a1 a2 y0 y1 y2 => by
  have : shp (G * a1) (G * a2) (G * a0) (G * q) y0 y1 y2 = (G * G) * shp a1 a2 a0 q y0 y1 y2 := by unfold shp; grind
  rw [this, ← Rat.mul_assoc, Rat.mul_comm i, iG, Rat.one_mul]
 rw [ia] at kx ky kz
 have e1 : 128 / (G * G) = 128 * i := by rw [hi]; grind
 have e2 : 16 * (16 - D) / (G * G) = 16 * (16 - D) * i := by rw [hi]; grind
 have px : (hxv p y).x = y.x + i * shp (8 * p.y) (8 * p.z) (8 * p.x) (16 - D) y.x y.y y.z := by
  simp only [hxv, sb3, ad, sc, cr]; rw [hD, ← hG, e1, e2]; unfold shp; grind
 have py : (hxv p y).y = y.y + i * shp (8 * p.z) (8 * p.x) (8 * p.y) (16 - D) y.y y.z y.x := by
  simp only [hxv, sb3, ad, sc, cr]; rw [hD, ← hG, e1, e2]; unfold shp; grind
 have pz : (hxv p y).z = y.z + i * shp (8 * p.x) (8 * p.y) (8 * p.z) (16 - D) y.z y.x y.y := by
  simp only [hxv, sb3, ad, sc, cr]; rw [hD, ← hG, e1, e2]; unfold shp; grind
 have tx : (trn a s y).x = y.x + shp a.y a.z a.x s y.x y.y y.z := by simp only [trn, sb3, ad, sc, cr]; unfold shp; grind
 have ty : (trn a s y).y = y.y + shp a.z a.x a.y s y.y y.z y.x := by simp only [trn, sb3, ad, sc, cr]; unfold shp; grind
 have tz : (trn a s y).z = y.z + shp a.x a.y a.z s y.z y.x y.y := by simp only [trn, sb3, ad, sc, cr]; unfold shp; grind
 exact ⟨by rw [tx, px]; exact kx, by rw [ty, py]; exact ky, by rw [tz, pz]; exact kz⟩
theorem ab_one {x : Int} (h : Ab x 1099511627776) : qr x ≤ 1 ∧ -1 ≤ qr x := by
 have := qr_ab h
 rw [one_q] at this; exact this
theorem rv_le {p0 p1 p2 : Int} (h0 : Ab p0 1099511627776) (h1 : Ab p1 1099511627776) (h2 : Ab p2 1099511627776) : dt (rv p0 p1 p2) (rv p0 p1 p2) ≤ 3 := by
 have k0 := ab_one h0; have k1 := ab_one h1; have k2 := ab_one h2
 have s0 := abs_sq k0.1 k0.2; have s1 := abs_sq k1.1 k1.2; have s2 := abs_sq k2.1 k2.2
 simp only [dt, rv]; grind
theorem part_two {v : R3} (h : dt v v ≤ 2) : (v.x ≤ 2 ∧ -2 ≤ v.x) ∧ (v.y ≤ 2 ∧ -2 ≤ v.y) ∧ (v.z ≤ 2 ∧ -2 ≤ v.z) := by
 have s0 := sq_nn v.x; have s1 := sq_nn v.y; have s2 := sq_nn v.z
 simp only [dt] at h
 have two : ∀ x : Rat, x * x ≤ 2 → x ≤ 2 ∧ -2 ≤ x := fun x hx => by
  constructor
  ·apply Classical.byContradiction; intro c
   have := Rat.mul_pos (show 0 < x - 2 by grind) (show 0 < x by grind)
   grind
  ·apply Classical.byContradiction; intro c
   have := Rat.mul_pos (show 0 < -x - 2 by grind) (show 0 < -x by grind)
   grind
 exact ⟨two _ (by grind), two _ (by grind), two _ (by grind)⟩
theorem ab_of_sq' {x y : Rat} (y0 : 0 ≤ y) (h : x * x ≤ y * y) : x ≤ y ∧ -y ≤ x := by
 constructor
 ·apply Classical.byContradiction; intro c
  have c1 : 0 < x - y := by grind
  have := Rat.mul_pos c1 (show 0 < x by grind)
  have := Rat.mul_nonneg (Rat.le_of_lt c1) y0
  grind
 ·apply Classical.byContradiction; intro c
  have c1 : 0 < -x - y := by grind
  have := Rat.mul_pos c1 (show 0 < -x by grind)
  have := Rat.mul_nonneg (Rat.le_of_lt c1) y0
  grind
theorem view_near {b0 b1 b2 t p0 p1 p2 e0 e1 e2 y0 y1 y2 : Int} (V : U4 b0 b1 b2 t) (h0 : Ab p0 1099511627776) (h1 : Ab p1 1099511627776) (h2 : Ab p2 1099511627776) (k0 : Ab e0 1099511627776) (k1 : Ab e1 1099511627776) (k2 : Ab e2 1099511627776)
  (ey : qTurnS false (b0, b1, b2, t) (e0, e1, e2) = ((y0, y1, y2), false)) (ly : dt (rv y0 y1 y2) (rv y0 y1 y2) ≤ 2) :
  ∃ f0 f1 f2 f3 c0 c1 c2 c3 z0 z1 z2, qFromRodS false (p0, p1, p2) = ((f0, f1, f2, f3), false) ∧ qMulS false (f0, f1, f2, f3) (b0, b1, b2, t) = ((c0, c1, c2, c3), false) ∧ qTurnS false (c0, c1, c2, c3) (e0, e1, e2) = ((z0, z1, z2), false) ∧
   Nr3 (rv z0 z1 z2) (hxv (rv p0 p1 p2) (rv y0 y1 y2)) (1500 / 1099511627776) := by
 obtain ⟨f0, f1, f2, f3, ef, U, n0, n1, n2, n3⟩ := rod_near h0 h1 h2
 obtain ⟨y0', y1', y2', x0, x1, x2, c0, c1, c2, c3, z0, z1, z2, ey', ex, ec, ez, m0, m1, m2⟩ := after_math U V k0 k1 k2
 rw [ey] at ey'
 simp only [Prod.mk.injEq, and_true] at ey'
 obtain ⟨rfl, rfl, rfl⟩ := ey'
 obtain ⟨q0, q1, q2⟩ := part_two ly
 have yb : ∀ y : Int, qr y ≤ 2 ∧ -2 ≤ qr y → Ab y 17592186044416 := fun y hy => by
  have e : qr y = (y : Rat) / 1099511627776 := rfl
  have a1 : ((y : Int) : Rat) ≤ ((17592186044416 : Int) : Rat) := by push_cast; grind
  have a2 : ((-17592186044416 : Int) : Rat) ≤ ((y : Int) : Rat) := by push_cast; grind
  exact ⟨Rat.intCast_le_intCast.1 a2, Rat.intCast_le_intCast.1 a1⟩
 obtain ⟨r0, r1, r2, er, rn⟩ := turn_q U (yb _ q0) (yb _ q1) (yb _ q2)
 rw [ex] at er
 simp only [Prod.mk.injEq, and_true] at er
 obtain ⟨rfl, rfl, rfl⟩ := er
 have hx := trn_hxv (a := rv f0 f1 f2) (p := rv p0 p1 p2) (y := rv y0 y1 y2) (s := qr f3) (E := 128 / 1099511627776) (dt_nn _) (by have := rv_le h0 h1 h2; grind) n0 n1 n2 n3 (ab_one U.a0) (ab_one U.a1) (ab_one U.a2) (ab_one U.a3) (ab_one h0) (ab_one h1) (ab_one h2) q0 q1 q2
 have e1024 : qr 1024 = 1024 / 1099511627776 := by unfold qr; push_cast; rfl
 have zx : Nr3 (rv z0 z1 z2) (rv x0 x1 x2) (1024 / 1099511627776) := by
  rw [← e1024]
  exact ⟨(diff_qn m0).symm, (diff_qn m1).symm, (diff_qn m2).symm⟩
 exact ⟨f0, f1, f2, f3, c0, c1, c2, c3, z0, z1, z2, ef, ec, ez, ((zx.trans rn).trans hx).le (by grind)⟩
theorem dt_near3 {x y x' y' : R3} {e c d : Rat} (h : Nr3 x x' e) (k : Nr3 y y' e) (hx : (x.x ≤ c ∧ -c ≤ x.x) ∧ (x.y ≤ c ∧ -c ≤ x.y) ∧ (x.z ≤ c ∧ -c ≤ x.z)) (hy : (y'.x ≤ d ∧ -d ≤ y'.x) ∧ (y'.y ≤ d ∧ -d ≤ y'.y) ∧ (y'.z ≤ d ∧ -d ≤ y'.z)) : Nr (dt x y) (dt x' y') (3 * (c * e + d * e)) := by
 have m0 := h.a.mul k.a hx.1.1 hx.1.2 hy.1.1 hy.1.2
 have m1 := h.b.mul k.b hx.2.1.1 hx.2.1.2 hy.2.1.1 hy.2.1.2
 have m2 := h.c.mul k.c hx.2.2.1 hx.2.2.2 hy.2.2.1 hy.2.2.2
 have := m0.hi; have := m0.lo; have := m1.hi; have := m1.lo; have := m2.hi; have := m2.lo
 simp only [dt]
 constructor <;> grind
theorem axes_turned {a0 a1 a2 s : Int} (U : U4 a0 a1 a2 s) : ∃ x0 x1 x2 y0 y1 y2, qTurnS false (a0, a1, a2, s) (1099511627776, 0, 0) = ((x0, x1, x2), false) ∧ qTurnS false (a0, a1, a2, s) (0, 1099511627776, 0) = ((y0, y1, y2), false) ∧ Dirs (rv x0 x1 x2) (rv y0 y1 y2) (200 / 1099511627776) := by
 obtain ⟨x0, x1, x2, ex, nx⟩ := turn_q U (⟨by decide, by decide⟩ : Ab 1099511627776 17592186044416) (⟨by decide, by decide⟩ : Ab 0 17592186044416) (⟨by decide, by decide⟩ : Ab 0 17592186044416)
 obtain ⟨y0, y1, y2, ey, ny⟩ := turn_q U (⟨by decide, by decide⟩ : Ab 0 17592186044416) (⟨by decide, by decide⟩ : Ab 1099511627776 17592186044416) (⟨by decide, by decide⟩ : Ab 0 17592186044416)
 refine ⟨x0, x1, x2, y0, y1, y2, ex, ey, ?_⟩
 have A : rv 1099511627776 0 0 = ⟨1, 0, 0⟩ := by unfold rv; rw [one_q, qr_zero']
 have B : rv 0 1099511627776 0 = ⟨0, 1, 0⟩ := by unfold rv; rw [one_q, qr_zero']
 rw [A] at nx
 rw [B] at ny
 have uq := u4_q U
 have xx := trn_dt (rv a0 a1 a2) (qr s) ⟨1, 0, 0⟩ ⟨1, 0, 0⟩
 have yy := trn_dt (rv a0 a1 a2) (qr s) ⟨0, 1, 0⟩ ⟨0, 1, 0⟩
 have xy := trn_dt (rv a0 a1 a2) (qr s) ⟨1, 0, 0⟩ ⟨0, 1, 0⟩
 have o1 : dt (⟨1, 0, 0⟩ : R3) ⟨1, 0, 0⟩ = 1 := by simp only [dt]; grind
 have o2 : dt (⟨0, 1, 0⟩ : R3) ⟨0, 1, 0⟩ = 1 := by simp only [dt]; grind
 have o3 : dt (⟨1, 0, 0⟩ : R3) ⟨0, 1, 0⟩ = 0 := by simp only [dt]; grind
 have aa : dt (rv a0 a1 a2) (rv a0 a1 a2) ≤ 1001 / 1000 := by have := uq.hi; have := sq_nn (qr s); grind
 have cx := cr_le (rv a0 a1 a2) ⟨1, 0, 0⟩
 have cy := cr_le (rv a0 a1 a2) ⟨0, 1, 0⟩
 have cc := cauchy (cr (rv a0 a1 a2) ⟨1, 0, 0⟩) (cr (rv a0 a1 a2) ⟨0, 1, 0⟩)
 have nx0 := dt_nn (cr (rv a0 a1 a2) ⟨1, 0, 0⟩)
 have ny0 := dt_nn (cr (rv a0 a1 a2) ⟨0, 1, 0⟩)
 rw [o1] at xx cx
 rw [o2] at yy cy
 rw [o3] at xy
 generalize dt (cr (rv a0 a1 a2) ⟨1, 0, 0⟩) (cr (rv a0 a1 a2) ⟨1, 0, 0⟩) = A at *
 generalize dt (cr (rv a0 a1 a2) ⟨0, 1, 0⟩) (cr (rv a0 a1 a2) ⟨0, 1, 0⟩) = B at *
 generalize dt (cr (rv a0 a1 a2) ⟨1, 0, 0⟩) (cr (rv a0 a1 a2) ⟨0, 1, 0⟩) = C at *
 have A1 : A ≤ 1001 / 1000 := by grind
 have B1 : B ≤ 1001 / 1000 := by grind
 have CC : C * C ≤ (1001 / 1000) * (1001 / 1000) := by
  have m1 := mul_le_l B1 nx0
  have m2 := mul_le_l A1 (show (0 : Rat) ≤ 1001 / 1000 by grind)
  grind
 have C1 := ab_of_sq' (show (0 : Rat) ≤ 1001 / 1000 by grind) CC
 have sA := uq.scale (a := A) (c := 1001 / 1000) A1 (by grind)
 have sB := uq.scale (a := B) (c := 1001 / 1000) B1 (by grind)
 have sC := uq.scale (a := C) (c := 1001 / 1000) C1.1 C1.2
 have kxx : Nr (dt (trn (rv a0 a1 a2) (qr s) ⟨1, 0, 0⟩) (trn (rv a0 a1 a2) (qr s) ⟨1, 0, 0⟩)) 1 (60 / 1099511627776) := by
  rw [xx]; have := sA.hi; have := sA.lo; constructor <;> grind
 have kyy : Nr (dt (trn (rv a0 a1 a2) (qr s) ⟨0, 1, 0⟩) (trn (rv a0 a1 a2) (qr s) ⟨0, 1, 0⟩)) 1 (60 / 1099511627776) := by
  rw [yy]; have := sB.hi; have := sB.lo; constructor <;> grind
 have kxy : Nr (dt (trn (rv a0 a1 a2) (qr s) ⟨1, 0, 0⟩) (trn (rv a0 a1 a2) (qr s) ⟨0, 1, 0⟩)) 0 (60 / 1099511627776) := by
  rw [xy]; have := sC.hi; have := sC.lo; constructor <;> grind
 have tx := part_two (v := trn (rv a0 a1 a2) (qr s) ⟨1, 0, 0⟩) (by have := kxx.hi; grind)
 have ty := part_two (v := trn (rv a0 a1 a2) (qr s) ⟨0, 1, 0⟩) (by have := kyy.hi; grind)
 have up : ∀ {x t : R3}, Nr3 x t (8 / 1099511627776) → ((t.x ≤ 2 ∧ -2 ≤ t.x) ∧ (t.y ≤ 2 ∧ -2 ≤ t.y) ∧ (t.z ≤ 2 ∧ -2 ≤ t.z)) → ((x.x ≤ 3 ∧ -3 ≤ x.x) ∧ (x.y ≤ 3 ∧ -3 ≤ x.y) ∧ (x.z ≤ 3 ∧ -3 ≤ x.z)) := fun n h => by
  have := n.a.hi; have := n.a.lo; have := n.b.hi; have := n.b.lo; have := n.c.hi; have := n.c.lo
  obtain ⟨⟨h1, h2⟩, ⟨h3, h4⟩, h5, h6⟩ := h
  exact ⟨⟨by grind, by grind⟩, ⟨by grind, by grind⟩, ⟨by grind, by grind⟩⟩
 have fx := (dt_near3 nx nx (up nx tx) tx).trans kxx
 have fy := (dt_near3 ny ny (up ny ty) ty).trans kyy
 have fz := (dt_near3 nx ny (up nx tx) ty).trans kxy
 have a1 := fx.hi; have a2 := fx.lo; have a3 := fy.hi; have a4 := fy.lo; have a5 := fz.hi; have a6 := fz.lo
 exact ⟨by grind, by grind, by grind, by grind, by grind, by grind, by grind, by grind⟩
end Go.Proofs.Ytooehgijllihdaa.Ff
namespace Go.Proofs.Ytooehgijllihdaa.Ff
open Go.RowKit
theorem quad_zero (m : Nat → Nat → Rat) (n : Nat) : quad m n (fun _ => 0) = 0 := by
 unfold quad; exact sr_zero fun k _ => by grind
theorem nrm_zero (n : Nat) : nrm n (fun _ => 0) = 0 := by unfold nrm; exact sr_zero fun k _ => by grind
theorem row_zero (f : Nat → Rat) (n : Nat) : sr (fun s => f s * (fun _ => (0 : Rat)) s) n = 0 := sr_zero fun k _ => by grind
theorem quad_one {m : Nat → Nat → Rat} {n i : Nat} (c : Rat) (hi : i < n) (sym : ∀ r, r < n → m r i = m i r) : quad m n (plus (fun _ => 0) i c) = c * c * m i i := by
 rw [quad_plus _ c hi sym, quad_zero, row_zero]; grind
theorem row_one {f : Nat → Rat} {n i : Nat} (c : Rat) (hi : i < n) : sr (fun s => f s * plus (fun _ => 0) i c s) n = f i * c := by
 have : ∀ s, f s * plus (fun _ => 0) i c s = if s = i then f i * c else 0 := fun s => by
  unfold plus; by_cases h : s = i
  ·subst h; rw [if_pos rfl, if_pos rfl]; grind
  ·rw [if_neg h, if_neg h]; grind
 rw [sr_eq fun k _ => this k, sr_one i _ hi]
theorem quad_pair {m : Nat → Nat → Rat} {n i j : Nat} (c d : Rat) (hi : i < n) (hj : j < n) (sym : ∀ r s, r < n → s < n → m r s = m s r) : quad m n (plus (plus (fun _ => 0) i c) j d) = c * c * m i i + 2 * (d * c) * m j i + d * d * m j j := by
 rw [quad_plus _ d hj (fun r hr => sym r j hr hj), quad_one c hi (fun r hr => sym r i hr hi), row_one c hi]; grind
theorem nrm_one {n i : Nat} (c : Rat) (hi : i < n) : nrm n (plus (fun _ => 0) i c) = c * c := by
 rw [nrm_plus _ c hi rfl, nrm_zero]; grind
theorem lam_left {m : Nat → Nat → Int} {lam : Rat} (H : PD m lam) {j : Nat} (hj : j ≤ 5) : 11999000 / 1099511627776 ≤ lam - 7 * j * e7 := by
 have hL := H.lam
 have e7v : e7 = 7 / 1099511627776 := rfl
 have jr : (j : Rat) ≤ 5 := by
  have : ((j : Int) : Rat) ≤ ((5 : Int) : Rat) := Rat.intCast_le_intCast.2 (by omega)
  push_cast at this; exact this
 rw [e7v]; grind
theorem res_sym {m L : Nat → Nat → Int} {lam : Rat} (H : PD m lam) (j : Nat) : ∀ r s, r < 6 → s < 6 → res m L j r s = res m L j s r := fun r s hr hs => res_comm (H.sym r s hr hs)
theorem diag_ge {m L : Nat → Nat → Int} {lam : Rat} {i j a : Nat} (H : PD m lam) (hi : i < 6) (R : Rw m L i) (T : RT m L i j) (hj : j ≤ i) (ha : j ≤ a) (ha' : a ≤ i) : 11999000 / 1099511627776 ≤ res m L j a a := by
 have h := qd_to H hi R T hj (plus (fun _ => 0) a 1) (fun k hk => by unfold plus; rw [if_neg (by omega)]; grind)
 rw [nrm_one 1 (by omega), quad_one 1 (by omega) (fun r hr => res_sym H j r a hr (by omega))] at h
 have := lam_left H (j := j) (by omega)
 grind
theorem res_le {m L : Nat → Nat → Int} {lam : Rat} {j a : Nat} (H : PD m lam) (ha : a < 6) : res m L j a a ≤ 1 / 4 := by
 have h := (qr_ab (H.bd a a ha ha)).1
 have e : qr 274877906944 = 1 / 4 := by unfold qr; push_cast; grind
 rw [e] at h
 have : 0 ≤ sr (fun t => qr (L a t) * qr (L a t)) j := sr_nn fun k _ => sq_nn _
 unfold res; grind
theorem side_le {m L : Nat → Nat → Int} {lam : Rat} {i j : Nat} (H : PD m lam) (hi : i < 6) (R : Rw m L i) (T : RT m L i j) (hj : j < i) : res m L j i j * res m L j i j ≤ 1 / 4 * res m L j j j := by
 have h := qd_to H hi R T (by omega) (plus (plus (fun _ => 0) i (res m L j j j)) j (-(res m L j i j))) (fun k hk => by unfold plus; rw [if_neg (by omega), if_neg (by omega)]; grind)
 have l0 := lam_left H (j := j) (by omega)
 have n0 := nrm_nn 6 (plus (plus (fun _ => 0) i (res m L j j j)) j (-(res m L j i j)))
 have k0 := Rat.mul_nonneg (show 0 ≤ lam - 7 * j * e7 by grind) n0
 rw [quad_pair (res m L j j j) (-(res m L j i j)) hi (by omega) (res_sym H j), res_comm (H.sym j i (by omega) hi)] at h
 have d := diag_ge H hi R T (by omega) (Nat.le_refl j) (by omega)
 have u := res_le (L := L) (j := j) H hi
 generalize res m L j i j = x at *
 generalize res m L j j j = y at *
 generalize res m L j i i = z at *
 have y0 : 0 < y := by grind
 have k : 0 ≤ y * (y * z - x * x) := by grind
 have k2 : 0 ≤ y * z - x * x := by
  apply Classical.byContradiction; intro c
  have := Rat.mul_pos y0 (show 0 < -(y * z - x * x) by grind)
  grind
 have := mul_le_l u (Rat.le_of_lt y0)
 grind
theorem am_res {m L : Nat → Nat → Int} {a b j : Nat} (hj : j ≤ 5) (ha : ∀ t, t < j → Ab (L a t) 1099511627776) (hb : ∀ t, t < j → Ab (L b t) 1099511627776) : qr (Am m L j a b) - res m L j a b ≤ 3 / 1099511627776 ∧ -(3 / 1099511627776) ≤ qr (Am m L j a b) - res m L j a b := by
 have p := prods_near ha hb
 have jj : (j : Int) * 1099511627776 ≤ 5 * 1099511627776 := by omega
 have h1 : ((2 * (sm (pr L a b) j * 1099511627776 - sm (fun t => L a t * L b t) j) : Int) : Rat) ≤ ((5497558138880 : Int) : Rat) := Rat.intCast_le_intCast.2 (by have := p.hi; omega)
 have h2 : ((-5497558138880 : Int) : Rat) ≤ ((2 * (sm (pr L a b) j * 1099511627776 - sm (fun t => L a t * L b t) j) : Int) : Rat) := Rat.intCast_le_intCast.2 (by have := p.lo; omega)
 push_cast at h1 h2
 unfold res
 rw [prod_q]
 have e : qr (Am m L j a b) = qr (m a b) - ((sm (pr L a b) j : Int) : Rat) / 1099511627776 := by unfold Am qr; push_cast; grind
 rw [e]
 constructor <;> grind
theorem am_bd2 {m L : Nat → Nat → Int} {lam : Rat} {a b j : Nat} (H : PD m lam) (ha6 : a < 6) (hb6 : b < 6) : ∀ {t : Nat}, t ≤ j → j ≤ 5 → (∀ t, t < j → Ab (L a t) 1099511627776) → (∀ t, t < j → Ab (L b t) 1099511627776) → Ab (Am m L t a b) (274877906944 + t * 1099511627777)
 | 0, _, _, _, _ => by rw [Am_zero]; exact (H.bd a b ha6 hb6).le (by omega)
 | t + 1, ht, hj, ha, hb => by
  have ih := am_bd2 H ha6 hb6 (t := t) (by omega) hj ha hb
  rw [Am_succ]
  exact (ih.sub (pr_bd (ha t (by omega)) (hb t (by omega)))).le (by push_cast; omega)
theorem subs_pd {m L : Nat → Nat → Int} {lam : Rat} {i b j : Nat} (H : PD m lam) (hi : i < 6) (hb6 : b < 6) (hj : j ≤ 5) (ha : ∀ t, t < j → Ab (L i t) 1099511627776) (hb : ∀ t, t < j → Ab (L b t) 1099511627776) : ∀ {t : Nat}, t ≤ j → subsS false (m i b) (L i) (L b) t = (Am m L t i b, false)
 | 0, _ => by rw [Am_zero]; rfl
 | t + 1, ht => by
  have bd := am_bd2 H hi hb6 (t := t) (by omega) hj ha hb
  unfold subsS
  rw [subs_pd H hi hb6 hj ha hb (t := t) (by omega)]
  dsimp only
  rw [(mul_is (ha t (by omega)) (hb t (by omega))).1]
  dsimp only
  rw [sub_near bd (pr_bd (ha t (by omega)) (hb t (by omega))) (by omega) (by omega) (by decide), Am_succ]
theorem RT.ub {m L : Nat → Nat → Int} {i j : Nat} (T : RT m L i j) : ∀ t, t < j → Ab (L i t) 1099511627776 := fun t ht => (T t ht).ub
theorem am_side {m L : Nat → Nat → Int} {lam : Rat} {i j : Nat} (H : PD m lam) (hi : i < 6) (R : Rw m L i) (T : RT m L i j) (hj : j < i) : Ab (2 * Am m L j i j) (L j j + 600) := by
 have P := (R j hj).1
 have rt := P.root
 have s := side_le H hi R T hj
 have ar := am_res (m := m) (L := L) (a := i) (b := j) (j := j) (by omega) T.ub (fun t ht => R.ub hj (by omega))
 have ad := am_res (m := m) (L := L) (a := j) (b := j) (j := j) (by omega) (fun t ht => R.ub hj (by omega)) (fun t ht => R.ub hj (by omega))
 have up : ((Am m L j j j * 1099511627776 : Int) : Rat) ≤ (((L j j + 1) * (L j j + 1) : Int) : Rat) := Rat.intCast_le_intCast.2 (by have := P.R.hi; omega)
 push_cast at up
 have lq : ((3600000000 : Int) : Rat) ≤ ((L j j : Int) : Rat) := Rat.intCast_le_intCast.2 rt.1
 push_cast at lq
 -- in last bits: x = res * 2^40
 have sq : (2 * (res m L j i j * 1099511627776)) * (2 * (res m L j i j * 1099511627776)) ≤ ((L j j : Rat) + 500) * ((L j j : Rat) + 500) := by
  have e : qr (Am m L j j j) = (Am m L j j j : Rat) / 1099511627776 := rfl
  have r1 : res m L j j j * 1099511627776 ≤ (Am m L j j j : Rat) + 3 := by grind
  have r2 : res m L j j j * 1208925819614629174706176 ≤ ((L j j : Rat) + 1) * ((L j j : Rat) + 1) + 3298534883328 := by grind
  have r3 : (2 * (res m L j i j * 1099511627776)) * (2 * (res m L j i j * 1099511627776)) ≤ res m L j j j * 1208925819614629174706176 := by grind
  have q := mul_le_l lq (show (0 : Rat) ≤ 998 by grind)
  grind
 have l0 : 0 ≤ (L j j : Rat) + 500 := by grind
 have ab : 2 * (res m L j i j * 1099511627776) ≤ (L j j : Rat) + 500 ∧ -((L j j : Rat) + 500) ≤ 2 * (res m L j i j * 1099511627776) := by
  generalize 2 * (res m L j i j * 1099511627776) = x at *
  generalize (L j j : Rat) + 500 = y at *
  constructor
  ·apply Classical.byContradiction; intro c
   have c1 : 0 < x - y := by grind
   have := Rat.mul_pos c1 (show 0 < x by grind)
   have := Rat.mul_nonneg (Rat.le_of_lt c1) l0
   grind
  ·apply Classical.byContradiction; intro c
   have c1 : 0 < -x - y := by grind
   have := Rat.mul_pos c1 (show 0 < -x by grind)
   have := Rat.mul_nonneg (Rat.le_of_lt c1) l0
   grind
 have e : qr (Am m L j i j) = (Am m L j i j : Rat) / 1099511627776 := rfl
 have a1 : ((2 * Am m L j i j : Int) : Rat) ≤ ((L j j + 600 : Int) : Rat) := by push_cast; grind
 have a2 : ((-(L j j + 600) : Int) : Rat) ≤ ((2 * Am m L j i j : Int) : Rat) := by push_cast; grind
 exact ⟨Rat.intCast_le_intCast.1 a2, Rat.intCast_le_intCast.1 a1⟩
theorem ent_side {m L : Nat → Nat → Int} {lam : Rat} {i j : Nat} (H : PD m lam) (hi : i < 6) (R : Rw m L i) (T : RT m L i j) (hj : j < i) :
  ∃ v, entS false (m i j) (L i) (L j) i j = (v, false) ∧ divS false (Am m L j i j) (L j j) = (v, false) ∧ DivR v (Am m L j i j) (L j j) ∧ Ab v 1099511627776 := by
 have rt := (R j hj).1.root
 have s := am_side H hi R T hj
 obtain ⟨v, ev, dR⟩ := div_near (a := Am m L j i j) (b := L j j) (K := L j j) ⟨by have := s.lo; omega, by have := s.hi; omega⟩ (by omega) (by omega) (by omega) (by omega)
 refine ⟨v, ?_, ev, dR, ?_⟩
 ·unfold entS
  rw [subs_pd H hi (by omega) (by omega) T.ub (fun t ht => R.ub hj (by omega)) (Nat.le_refl _)]
  dsimp only
  rw [if_neg (by omega), ev]
 ·have s1 := s.lo; have s2 := s.hi; have d1 := dR.lo; have d2 := dR.hi
  constructor
  ·apply Classical.byContradiction; intro c
   have c' : v ≤ -1099511627777 := by omega
   have := Int.mul_le_mul_of_nonneg_right c' (show 0 ≤ L j j by omega)
   omega
  ·apply Classical.byContradiction; intro c
   have c' : 1099511627777 ≤ v := by omega
   have := Int.mul_le_mul_of_nonneg_right c' (show 0 ≤ L j j by omega)
   omega
theorem ent_piv {m L : Nat → Nat → Int} {lam : Rat} {i : Nat} (H : PD m lam) (hi : i < 6) (R : Rw m L i) (T : RT m L i i) :
  ∃ d, entS false (m i i) (L i) (L i) i i = (d, false) ∧ sqrtS false (Am m L i i i) = (d, false) ∧ SqrtR d (Am m L i i i) ∧ 11900000 ≤ Am m L i i i ∧ Am m L i i i ≤ 1099511627776 := by
 have g := diag_ge H hi R T (Nat.le_refl _) (Nat.le_refl i) (Nat.le_refl i)
 have u := res_le (L := L) (j := i) H hi
 have ar := am_res (m := m) (L := L) (a := i) (b := i) (j := i) (by omega) T.ub T.ub
 have e : qr (Am m L i i i) = (Am m L i i i : Rat) / 1099511627776 := rfl
 have lo : 11900000 ≤ Am m L i i i := by
  have : ((11900000 : Int) : Rat) ≤ ((Am m L i i i : Int) : Rat) := by push_cast; grind
  exact Rat.intCast_le_intCast.1 this
 have up : Am m L i i i ≤ 1099511627776 := by
  have : ((Am m L i i i : Int) : Rat) ≤ ((1099511627776 : Int) : Rat) := by push_cast; grind
  exact Rat.intCast_le_intCast.1 this
 obtain ⟨d, ed, S⟩ := sqrt_near (a := Am m L i i i) (by omega) up
 refine ⟨d, ?_, ed, S, lo, up⟩
 unfold entS
 rw [subs_pd H hi hi (by omega) T.ub T.ub (Nat.le_refl _)]
 dsimp only
 rw [if_pos rfl, if_neg (by omega), ed]
theorem agree_pv {m L L' : Nat → Nat → Int} {i j a : Nat} (A : Agree L L' i j) (ha : a < i) (P : Pv m L a) : Pv m L' a := by
 have e := A.am (m := m) (k := a) (a := a) (b := a) (Or.inl ha) (Or.inl ha)
 have e2 := A.rows a a ha
 exact ⟨by rw [e, e2]; exact P.sq, by rw [e, e2]; exact P.R, by rw [e]; exact P.lo, by rw [e]; exact P.hi⟩
theorem agree_lf {m L L' : Nat → Nat → Int} {i j a k : Nat} (A : Agree L L' i j) (hk : k < i) (ha : a < i ∨ (a = i ∧ k < j)) (P : Lf m L a k) : Lf m L' a k := by
 have e := A.am (m := m) (k := k) (a := a) (b := k) (by omega) (Or.inl hk)
 have e2 := A.rows k k hk
 have e3 : L' a k = L a k := by
  rcases ha with h | ⟨rfl, h⟩
  ·exact A.rows a k h
  ·exact A.row k h
 exact ⟨by rw [e, e2, e3]; exact P.dv, by rw [e, e2, e3]; exact P.R, by rw [e3]; exact P.ub⟩
theorem agree_rw {m L L' : Nat → Nat → Int} {i j : Nat} (A : Agree L L' i j) (R : Rw m L i) : Rw m L' i := fun a ha => ⟨agree_pv A ha (R a ha).1, fun k hk => agree_lf A (by omega) (Or.inl ha) ((R a ha).2 k hk)⟩
theorem agree_rt {m L L' : Nat → Nat → Int} {i j : Nat} (A : Agree L L' i j) (hj : j ≤ i) (T : RT m L i j) : RT m L' i j := fun k hk => agree_lf A (by omega) (Or.inr ⟨rfl, hk⟩) (T k hk)
structure Pt6 (m L : Nat → Nat → Int) (i j : Nat) : Prop where
 rows : Rw m L i
 row : RT m L i j
 zero : ∀ a b, (i < a ∨ a < b ∨ (a = i ∧ j ≤ b)) → L a b = 0
theorem row_pd {m : Nat → Nat → Int} {lam : Rat} {i : Nat} (H : PD m lam) (hi : i < 6) {l : Nat → Nat → Int} (R : Rw m l i) (Z : ∀ a b, (i ≤ a ∨ a < b) → l a b = 0) : ∀ {j : Nat}, j ≤ i → ∃ l', rowS m i (l, false) j = (l', false) ∧ Pt6 m l' i j
 | 0, _ => ⟨l, rfl, R, fun k hk => by omega, fun a b h => Z a b (by omega)⟩
 | j + 1, hj => by
  obtain ⟨l', e, P⟩ := row_pd H hi R Z (j := j) (by omega)
  obtain ⟨v, ev, dv, dR, ub⟩ := ent_side H hi P.rows P.row (by omega)
  have A := agree_set l' i j v
  refine ⟨setM l' i j v, ?_, agree_rw A P.rows, fun k hk => ?_, fun a b h => ?_⟩
  ·unfold rowS; rw [e]; dsimp only; rw [ev]
  ·by_cases c : k < j
   ·exact agree_lf A (by omega) (Or.inr ⟨rfl, c⟩) (P.row k c)
   ·have ek : k = j := by omega
    subst ek
    have e0 := A.am (m := m) (k := k) (a := i) (b := k) (Or.inr ⟨rfl, Nat.le_refl _⟩) (Or.inl (by omega))
    have e2 := A.rows k k (by omega)
    exact ⟨by rw [e0, e2, set_at]; exact dv, by rw [e0, e2, set_at]; exact dR, by rw [set_at]; exact ub⟩
  ·unfold setM
   rw [if_neg (by omega)]
   exact P.zero a b (by omega)
theorem rows_pd {m : Nat → Nat → Int} {lam : Rat} (H : PD m lam) : ∀ {i : Nat}, i ≤ 6 → ∃ l, rowsS m (fun _ _ => 0, false) i = (l, false) ∧ Rw m l i ∧ ∀ a b, (i ≤ a ∨ a < b) → l a b = 0
 | 0, _ => ⟨fun _ _ => 0, rfl, fun a ha => by omega, fun _ _ _ => rfl⟩
 | i + 1, hi => by
  obtain ⟨l, e, R, Z⟩ := rows_pd H (i := i) (by omega)
  obtain ⟨l', e', P⟩ := row_pd H (by omega) R Z (Nat.le_refl i)
  obtain ⟨d, ed, sq, S, lo, up⟩ := ent_piv H (by omega) P.rows P.row
  have A := agree_set l' i i d
  refine ⟨setM l' i i d, ?_, fun a ha => ?_, fun a b h => ?_⟩
  ·unfold rowsS; rw [e]; unfold rowS; rw [e']; dsimp only; rw [ed]
  ·by_cases c : a < i
   ·exact (agree_rw A P.rows) a c
   ·have ea : a = i := by omega
    subst ea
    have e0 := A.am (m := m) (k := a) (a := a) (b := a) (Or.inr ⟨rfl, Nat.le_refl _⟩) (Or.inr ⟨rfl, Nat.le_refl _⟩)
    exact ⟨⟨by rw [e0, set_at]; exact sq, by rw [e0, set_at]; exact S, by rw [e0]; exact lo, by rw [e0]; exact up⟩, agree_rt A (Nat.le_refl _) P.row⟩
  ·unfold setM
   rw [if_neg (by omega)]
   exact P.zero a b (by omega)
structure Wh (m L : Nat → Nat → Int) : Prop where
 rows : Rw m L 6
 zero : ∀ a b, (6 ≤ a ∨ a < b) → L a b = 0
theorem pd_root {m : Nat → Int} {lam : Rat} (H : PD (mt m) lam) : ∃ g L, mRootS false m 6 = (g, false) ∧ Rel g L ∧ Wh (mt m) L := by
 obtain ⟨L, e, R, Z⟩ := rows_pd H (Nat.le_refl 6)
 obtain ⟨eb, eR⟩ := root_l0_k m false 6 (Nat.le_refl 6)
 rw [e] at eb eR
 refine ⟨(mRootS_l0 m (fun _ => 0, false) 6).1, L, ?_, eR, R, Z⟩
 unfold mRootS
 dsimp only
 rw [eb]
 rfl
end Go.Proofs.Ytooehgijllihdaa.Ff
namespace Go.Proofs.Ytooehgijllihdaa.Ff
open Go.RowKit
theorem back_ex (l : Nat → Nat → Rat) (hz : ∀ r k, r < k → l r k = 0) : ∀ t, t ≤ 6 → (∀ k, k < t → l k k ≠ 0) → ∀ y : Nat → Rat, ∃ a : Nat → Rat, (∀ r, t ≤ r → a r = 0) ∧ ∀ k, k < t → sr (fun r => l r k * a r) 6 = y k
 | 0, _, _, _ => ⟨fun _ => 0, fun _ _ => rfl, fun k hk => by omega⟩
 | t + 1, ht, hl, y => by
  obtain ⟨a, ha, hk⟩ := back_ex l hz t (by omega) (fun k hk => hl k (by omega)) (fun k => y k - l t k * (y t / l t t))
  have e : ∀ k, sr (fun r => l r k * plus a t (y t / l t t) r) 6 = sr (fun r => l r k * a r) 6 + l t k * (y t / l t t) := fun k => by
   have : ∀ r, l r k * plus a t (y t / l t t) r = l r k * a r + (if r = t then l t k * (y t / l t t) else 0) := fun r => by
    unfold plus; by_cases h : r = t
    ·subst h; rw [if_pos rfl, if_pos rfl]; grind
    ·rw [if_neg h, if_neg h]; grind
   rw [sr_eq fun r _ => this r, sr_add, sr_one t _ (by omega)]
  refine ⟨plus a t (y t / l t t), fun r hr => ?_, fun k hk' => ?_⟩
  ·unfold plus; rw [if_neg (by omega), ha r (by omega)]; grind
  ·rw [e k]
   by_cases c : k < t
   ·rw [hk k c]; grind
   ·have ek : k = t := by omega
    subst ek
    have z : sr (fun r => l r k * a r) 6 = 0 := sr_zero fun r _ => by
     by_cases c2 : r < k
     ·rw [hz r k c2]; grind
     ·rw [ha r (by omega)]; grind
    have := hl k (by omega)
    rw [z]; grind
def lq (L : Nat → Nat → Int) (r k : Nat) : Rat := qr (L r k)
def col (L : Nat → Nat → Int) (a : Nat → Rat) (k : Nat) : Rat := sr (fun r => lq L r k * a r) 6
theorem quad_res (m L : Nat → Nat → Int) (a : Nat → Rat) : ∀ j, quad (res m L j) 6 a = quad (fun r s => qr (m r s)) 6 a - sr (fun k => col L a k * col L a k) j
 | 0 => by
  rw [quad_eq (m := res m L 0) (m' := fun r s => qr (m r s)) a fun r s => by unfold res; simp only [sr]; grind]
  simp only [sr]; grind
 | j + 1 => by
  rw [quad_eq (m := res m L (j + 1)) (m' := fun r s => res m L j r s - lq L r j * lq L s j) a fun r s => res_succ m L j r s, quad_sub, quad_res m L a j]
  simp only [sr, col]; grind
theorem Wh.ub {m L : Nat → Nat → Int} (W : Wh m L) (a k : Nat) : Ab (L a k) 1099511627776 := by
 by_cases c : a < 6
 ·by_cases c2 : k ≤ a
  ·exact W.rows.ub c c2
  ·rw [W.zero a k (Or.inr (by omega))]; exact ⟨by decide, by decide⟩
 ·rw [W.zero a k (Or.inl (by omega))]; exact ⟨by decide, by decide⟩
theorem qr_zero : qr 0 = 0 := by unfold qr; push_cast; grind
theorem rest_small {m L : Nat → Nat → Int} {lam : Rat} (H : PD m lam) (W : Wh m L) {r s : Nat} (hr : r < 6) (hs : s < 6) : res m L 6 r s ≤ e7 ∧ -e7 ≤ res m L 6 r s := by
 have low : ∀ r s, r < 6 → s ≤ r → res m L 6 r s ≤ e7 ∧ -e7 ≤ res m L 6 r s := fun r s hr hs => by
  have h := res_small (m := m) (L := L) (a := r) (j := s) (by omega) (fun t _ => W.ub r t) (fun t _ => W.ub s t) (W.rows s (by omega)).1 (by
   by_cases c : r = s
   ·exact Or.inl c
   ·exact Or.inr ((W.rows r hr).2 s (by omega)))
  have e : ∀ d, res m L (s + 1 + d) r s = res m L (s + 1) r s := fun d => by
   induction d with
   | zero => rfl
   | succ d ih =>
    rw [show s + 1 + (d + 1) = s + 1 + d + 1 by omega, res_succ, ih, W.zero s (s + 1 + d) (Or.inr (by omega)), qr_zero]; grind
  have := e (6 - (s + 1))
  rw [show s + 1 + (6 - (s + 1)) = 6 by omega] at this
  rw [this]; exact h
 by_cases c : s ≤ r
 ·exact low r s hr c
 ·rw [res_comm (H.sym r s hr hs)]; exact low s r hs (by omega)
theorem small_quad {f : Nat → Nat → Rat} {e : Rat} (e0 : 0 ≤ e) (h : ∀ r s, r < 6 → s < 6 → f r s ≤ e ∧ -e ≤ f r s) (a : Nat → Rat) : quad f 6 a ≤ 6 * e * nrm 6 a := by
 have k : ∀ r, r < 6 → 2 * (a r * sr (fun s => f r s * a s) 6) ≤ e * (6 * (a r * a r)) + e * nrm 6 a := fun r hr => by
  have := small_row (f := f r) (a := a) (n := 6) (e := e) (c := a r) (fun s hs => Or.inl (h r s hr hs)) e0
  push_cast at this
  grind
 have s := sr_le k
 rw [sr_mul, sr_add, sr_mul e, sr_mul 6] at s
 have cn : sr (fun _ => e * nrm 6 a) 6 = 6 * (e * nrm 6 a) := by simp only [sr]; grind
 rw [cn] at s
 unfold quad
 unfold nrm at *
 grind
theorem e7_nn : 0 ≤ e7 := by unfold e7; grind
theorem tail_ge {m L : Nat → Nat → Int} {lam : Rat} (H : PD m lam) (W : Wh m L) {s : Nat} (hs : s ≤ 5) (a : Nat → Rat) (ha : ∀ k, k < s ∨ 5 < k → a k = 0) : (lam - 7 * s * e7 - 6 * e7) * nrm 6 a ≤ sr (fun k => col L a k * col L a k) 6 - sr (fun k => col L a k * col L a k) s := by
 have h := qd_to H (i := 5) (by omega) (fun a ha => W.rows a (by omega)) (j := s) (fun k hk => (W.rows 5 (by omega)).2 k (by omega)) hs a ha
 rw [quad_res] at h
 have k := quad_res m L a 6
 have u := small_quad e7_nn (fun r s hr hs => rest_small H W hr hs) a
 rw [k] at u
 grind
theorem sr_swap (f : Nat → Nat → Rat) (n : Nat) : ∀ m, sr (fun j => sr (fun k => f j k) n) m = sr (fun k => sr (fun j => f j k) m) n
 | 0 => by simp only [sr]; rw [sr_zero fun _ _ => rfl]
 | m + 1 => by simp only [sr]; rw [sr_swap f n m, ← sr_add]
theorem fwd_norm {m L : Nat → Nat → Int} {lam B : Rat} (H : PD m lam) (W : Wh m L) {t : Nat} (ht : t ≤ 6) (y : Nat → Rat) (hy : ∀ k, t ≤ k → y k = 0) (hB : ∀ r, r < t → (sr (fun k => lq L r k * y k) 6) * (sr (fun k => lq L r k * y k) 6) ≤ B) :
  (lam - 6 * e7) * nrm 6 y ≤ t * B := by
 obtain ⟨a, ha, hk⟩ := back_ex (lq L) (fun r k h => by unfold lq; rw [W.zero r k (Or.inr h)]; exact qr_zero) t ht (fun k hk => by
  have rt := (W.rows k (by omega)).1.root
  have h1 : qr 3600000000 ≤ qr (L k k) := qr_le rt.1
  have h2 : qr 3600000000 = 3600000000 / 1099511627776 := by unfold qr; push_cast; rfl
  unfold lq; intro h; rw [h, h2] at h1; grind) y
 have g := tail_ge H W (s := 0) (by omega) a (fun k hk => ha k (by omega))
 -- the columns of a are y, up to t; behind it they are of zeros alone
 have cy : ∀ k, k < 6 → col L a k = y k := fun k hk6 => by
  by_cases c : k < t
  ·exact hk k c
  ·rw [hy k (by omega)]
   exact sr_zero fun r _ => by
    by_cases c2 : r < k
    ·unfold lq; rw [W.zero r k (Or.inr c2), qr_zero]; grind
    ·rw [ha r (by omega)]; grind
 have n1 : sr (fun k => col L a k * col L a k) 6 = nrm 6 y := sr_eq fun k hk => by rw [cy k hk]
 rw [n1] at g
 simp only [sr] at g
 -- |y|^2 = sum of a_r b_r
 have sw : nrm 6 y = sr (fun r => a r * sr (fun k => lq L r k * y k) 6) 6 := by
  have e1 : nrm 6 y = sr (fun k => sr (fun r => y k * (lq L r k * a r)) 6) 6 := by
   unfold nrm; exact sr_eq fun k hk => by rw [sr_mul]; have := cy k hk; unfold col at this; rw [this]
  rw [e1, sr_swap]
  exact sr_eq fun r _ => by rw [← sr_mul]; exact sr_eq fun k _ => by grind
 have lam0 := H.lam
 have e7v : e7 = 7 / 1099511627776 := rfl
 generalize hl : lam - 6 * e7 = l at *
 have l0 : 0 < l := by rw [← hl, e7v]; grind
 have g' : l * nrm 6 a ≤ nrm 6 y := by
  have : lam - 7 * ((0 : Nat) : Rat) * e7 - 6 * e7 = l := by rw [← hl]; push_cast; grind
  rw [this] at g; grind
 have am : ∀ r, r < 6 → (2 * l) * (a r * sr (fun k => lq L r k * y k) 6) ≤ l * l * (a r * a r) + (if r < t then B else 0) := fun r hr => by
  by_cases c : r < t
  ·rw [if_pos c]
   have := sq_nn (l * a r - sr (fun k => lq L r k * y k) 6)
   have := hB r c
   grind
  ·rw [if_neg c, ha r (by omega)]; grind
 have s := sr_le am
 rw [sr_mul, sr_add, sr_mul (l * l), ← sw] at s
 have cb : ∀ n, sr (fun r => if r < t then B else 0) n = (if n ≤ t then n else t : Nat) * B := by
  intro n
  induction n with
  | zero => simp only [sr]; rw [if_pos (by omega)]; push_cast; grind
  | succ n ih =>
   simp only [sr]; rw [ih]
   by_cases c : n < t
   ·rw [if_pos c, if_pos (by omega), if_pos (by omega)]; push_cast; grind
   ·rw [if_neg c]
    by_cases c2 : n = t
    ·rw [if_pos (by omega), if_neg (by omega), c2]; grind
    ·rw [if_neg (by omega), if_neg (by omega)]; grind
 rw [cb 6] at s
 have hh : ((if 6 ≤ t then 6 else t : Nat) : Rat) * B = t * B := by
  by_cases c : 6 ≤ t
  ·rw [if_pos c, show t = 6 by omega]
  ·rw [if_neg c]
 rw [hh] at s
 have s2 := mul_le_l g' (Rat.le_of_lt l0)
 unfold nrm at *
 grind
theorem bwd_norm {m L : Nat → Nat → Int} {lam B : Rat} (H : PD m lam) (W : Wh m L) {s : Nat} (hs : s ≤ 5) (x : Nat → Rat) (hx : ∀ k, k < s ∨ 5 < k → x k = 0) (hB : ∀ k, s ≤ k → k < 6 → col L x k * col L x k ≤ B) (B0 : 0 ≤ B) : (lam - 41 * e7) * nrm 6 x ≤ 6 * B := by
 have g := tail_ge H W hs x hx
 have d : ∀ d, s + d ≤ 6 → sr (fun k => col L x k * col L x k) (s + d) - sr (fun k => col L x k * col L x k) s ≤ d * B := by
  intro d
  induction d with
  | zero => intro _; push_cast; show sr _ s - sr _ s ≤ _; grind
  | succ d ih =>
   intro h
   have i1 := ih (by omega)
   have i2 := hB (s + d) (by omega) (by omega)
   show sr _ (s + d) + _ - _ ≤ _
   push_cast; grind
 have k := d (6 - s) (by omega)
 rw [show s + (6 - s) = 6 by omega] at k
 have c6 : ((6 - s : Nat) : Rat) ≤ 6 := by
  have : (((6 - s : Nat) : Int) : Rat) ≤ ((6 : Int) : Rat) := Rat.intCast_le_intCast.2 (by omega)
  push_cast at this; exact this
 have c5 : (s : Rat) ≤ 5 := by
  have : ((s : Int) : Rat) ≤ ((5 : Int) : Rat) := Rat.intCast_le_intCast.2 (by omega)
  push_cast at this; exact this
 have n0 := nrm_nn 6 x
 have k2 := mul_le_l c6 B0
 have k3 := mul_le_l c5 (Rat.mul_nonneg e7_nn n0)
 grind
end Go.Proofs.Ytooehgijllihdaa.Ff
namespace Go.Proofs.Ytooehgijllihdaa.Ff
open Go.RowKit
theorem sr_tail {f : Nat → Rat} {a n : Nat} (h : a ≤ n) (hz : ∀ k, a ≤ k → k < n → f k = 0) : sr f n = sr f a := by
 obtain ⟨d, rfl⟩ : ∃ d, n = a + d := ⟨n - a, by omega⟩
 clear h
 induction d with
 | zero => rfl
 | succ d ih =>
  show sr f (a + d) + f (a + d) = _
  rw [ih (fun k h1 h2 => hz k h1 (by omega)), hz (a + d) (by omega) (by omega)]; grind
theorem sq_bd {x y : Rat} (h1 : x ≤ y) (h2 : -y ≤ x) : x * x ≤ y * y := abs_sq h1 h2
theorem ab_of_sq {x y : Rat} (y0 : 0 ≤ y) (h : x * x ≤ y * y) : x ≤ y ∧ -y ≤ x := by
 constructor
 ·apply Classical.byContradiction; intro c
  have c1 : 0 < x - y := by grind
  have := Rat.mul_pos c1 (show 0 < x by grind)
  have := Rat.mul_nonneg (Rat.le_of_lt c1) y0
  grind
 ·apply Classical.byContradiction; intro c
  have c1 : 0 < -x - y := by grind
  have := Rat.mul_pos c1 (show 0 < -x by grind)
  have := Rat.mul_nonneg (Rat.le_of_lt c1) y0
  grind
structure Fx (b : Nat → Int) (L : Nat → Nat → Int) (y : Nat → Int) (k : Nat) : Prop where
 dv : divS false (rf b L y k k) (L k k) = (y k, false)
 R : DivR (y k) (rf b L y k k) (L k k)
 ub : Ab (y k) 351843720888320
theorem qf_fx {L : Nat → Nat → Int} {y : Nat → Int} {i k : Nat} (h : Ab (L i k) 1099511627776) (hy : Ab (y k) 351843720888320) : mulS false (L i k) (y k) = (qf L y i k, false) ∧ MulR (qf L y i k) (L i k) (y k) ∧ Ab (qf L y i k) 351843720888321 := by
 obtain ⟨e, r⟩ := qf_is h (hy.le (by decide))
 exact ⟨e, r, prod_bd h hy r (by decide)⟩
theorem rf_bd2 {b : Nat → Int} {L : Nat → Nat → Int} {y : Nat → Int} {i : Nat} (hb : Ab (b i) 1099511627776) : ∀ {t : Nat}, (∀ k, k < t → Ab (L i k) 1099511627776 ∧ Ab (y k) 351843720888320) → Ab (rf b L y t i) (1099511627776 + t * 351843720888321)
 | 0, _ => by
  have e : rf b L y 0 i = b i := by unfold rf; show b i - 0 = _; omega
  rw [e]; exact hb.le (by omega)
 | t + 1, h => by
  have ih := rf_bd2 hb (t := t) (fun k hk => h k (by omega))
  rw [rf_succ]
  exact (ih.sub (qf_fx (h t (by omega)).1 (h t (by omega)).2).2.2).le (by push_cast; omega)
theorem fsubs2 {b : Nat → Int} {L : Nat → Nat → Int} {y : Nat → Int} {i : Nat} (hb : Ab (b i) 1099511627776) : ∀ {t : Nat}, t ≤ 5 → (∀ k, k < t → Ab (L i k) 1099511627776 ∧ Ab (y k) 351843720888320) → subsS false (b i) (L i) y t = (rf b L y t i, false)
 | 0, _, _ => by
  have e : rf b L y 0 i = b i := by unfold rf; show b i - 0 = _; omega
  rw [e]; rfl
 | t + 1, ht, h => by
  obtain ⟨e, r, q⟩ := qf_fx (h t (by omega)).1 (h t (by omega)).2
  unfold subsS
  rw [fsubs2 hb (t := t) (by omega) (fun k hk => h k (by omega))]
  dsimp only
  rw [e]
  dsimp only
  rw [sub_near (rf_bd2 hb (t := t) (fun k hk => h k (by omega))) q (by omega) (by omega) (by decide), rf_succ]
theorem fx_near {b : Nat → Int} {L : Nat → Nat → Int} {y : Nat → Int} {r : Nat} (hr : r ≤ 5) (hL : ∀ k, Ab (L r k) 1099511627776) (hy : ∀ k, k < r → Ab (y k) 351843720888320) (R : DivR (y r) (rf b L y r r) (L r r)) (d : L r r ≤ 1099511627776) : Ab (2 * (sm (fun k => L r k * y k) (r + 1) - b r * 1099511627776)) 6597069766656 := by
 have h := sm_near (f := fun k => 2 * (qf L y r k * 1099511627776)) (g := fun k => 2 * (L r k * y k)) (K := 1099511627776) (n := r) (fun k hk => by
  have q := (qf_fx (hL k) (hy k hk)).2.1
  have := q.lo; have := q.hi
  generalize L r k * y k = x at *
  exact ⟨by omega, by omega⟩)
 rw [sm_mul 2, sm_mul 2, sm_two] at h
 have e : rf b L y r r = b r - sm (qf L y r) r := rfl
 rw [e] at R
 show Ab (2 * (sm (fun k => L r k * y k) r + L r r * y r - b r * 1099511627776)) _
 have h1 := h.lo; have h2 := h.hi; have r1 := R.lo; have r2 := R.hi
 rw [Int.mul_comm (y r)] at r1 r2
 generalize sm (fun k => L r k * y k) r = X at *
 generalize sm (qf L y r) r = Y at *
 generalize L r r * y r = Z at *
 constructor <;> omega
theorem near_q3 {x y : Int} (h : Ab (2 * (y - x * 1099511627776)) 6597069766656) : (y : Rat) / 1208925819614629174706176 - qr x ≤ 3 / 1099511627776 ∧ -(3 / 1099511627776) ≤ (y : Rat) / 1208925819614629174706176 - qr x := by
 have h1 : ((2 * (y - x * 1099511627776) : Int) : Rat) ≤ ((6597069766656 : Int) : Rat) := Rat.intCast_le_intCast.2 h.hi
 have h2 : ((-6597069766656 : Int) : Rat) ≤ ((2 * (y - x * 1099511627776) : Int) : Rat) := Rat.intCast_le_intCast.2 h.lo
 push_cast at h1 h2
 unfold qr
 constructor <;> grind
def cutq (y : Nat → Int) (t : Nat) : Nat → Rat := fun k => if k < t then qr (y k) else 0
theorem rowq {L : Nat → Nat → Int} {y : Nat → Int} {r t : Nat} (hr : r < t) (ht : t ≤ 6) (hz : ∀ k, r < k → L r k = 0) : sr (fun k => lq L r k * cutq y t k) 6 = ((sm (fun k => L r k * y k) (r + 1) : Int) : Rat) / 1208925819614629174706176 := by
 rw [sr_tail (a := r + 1) (by omega) (fun k h1 _ => by unfold lq; rw [hz k (by omega), qr_zero]; grind), sr_cast]
 have : ∀ k, k < r + 1 → lq L r k * cutq y t k = (1 / 1208925819614629174706176) * ((L r k * y k : Int) : Rat) := fun k hk => by
  unfold lq cutq qr; rw [if_pos (by omega)]; push_cast; grind
 rw [sr_eq this, sr_mul]; grind
theorem nrm_at (y : Nat → Rat) {k : Nat} (h : k < 6) : y k * y k ≤ nrm 6 y := sr_term (f := fun r => y r * y r) (fun k _ => sq_nn (y k)) h
theorem fwd_pd {m L : Nat → Nat → Int} {lam : Rat} {b : Nat → Int} (H : PD m lam) (hl : 6 / 100000 ≤ lam) (W : Wh m L) (hb : ∀ i, i < 6 → Ab (b i) 1099511627776) : ∀ {t : Nat}, t ≤ 6 → ∃ y, fwdS L b false t = (y, false) ∧ ∀ k, k < t → Fx b L y k
 | 0, _ => ⟨fun _ => 0, rfl, fun k hk => by omega⟩
 | t + 1, ht => by
  obtain ⟨y, e, F⟩ := fwd_pd H hl W hb (t := t) (by omega)
  obtain ⟨d1, d2⟩ := (W.rows t (by omega)).1.root
  have fb := fun k (hk : k < t) => And.intro (W.ub t k) (F k hk).ub
  have rb := rf_bd2 (b := b) (L := L) (y := y) (hb t (by omega)) (t := t) fb
  obtain ⟨v, ev, R⟩ := div_near (a := rf b L y t t) (b := L t t) (K := 1099511627776 + t * 351843720888321) rb (by omega) (by omega) (by omega) (by omega)
  have same : ∀ k, k < t → setF y t v k = y k := fun k hk => by unfold setF; rw [if_neg (by omega)]
  have here : setF y t v t = v := by unfold setF; rw [if_pos rfl]
  have R' : DivR (setF y t v t) (rf b L (setF y t v) t t) (L t t) := by rw [here, rf_same same]; exact R
  -- how great it is
  have nr := fwd_norm H W (t := t + 1) (by omega) (cutq (setF y t v) (t + 1)) (fun k hk => by unfold cutq; rw [if_neg (by omega)]) (B := 1001 / 1000) (fun r hr => by
   rw [rowq hr (by omega) (fun k hk => W.zero r k (Or.inr hk))]
   have n := near_q3 (fx_near (b := b) (L := L) (y := setF y t v) (r := r) (by omega) (fun k => W.ub r k) (fun k hk => by rw [same k (by omega)]; exact (F k (by omega)).ub) (by
    by_cases c : r < t
    ·rw [same r c, rf_same fun k hk => same k (by omega)]; exact (F r c).R
    ·have er : r = t := by omega
     rw [er]; exact R') ((W.rows r (by omega)).1.root.2))
   have q := qr_ab (hb r (by omega))
   have e1 : qr 1099511627776 = 1 := by unfold qr; push_cast; grind
   rw [e1] at q
   have s := sq_bd (x := ((sm (fun k => L r k * setF y t v k) (r + 1) : Int) : Rat) / 1208925819614629174706176) (y := 1 + 3 / 1099511627776) (by grind) (by grind)
   grind)
  have at_ := nrm_at (cutq (setF y t v) (t + 1)) (k := t) (by omega)
  have c6 : ((t + 1 : Nat) : Rat) ≤ 6 := by
   have : (((t + 1 : Nat) : Int) : Rat) ≤ ((6 : Int) : Rat) := Rat.intCast_le_intCast.2 (by omega)
   push_cast at this ⊢; exact this
  have e7v : e7 = 7 / 1099511627776 := rfl
  have n0 := nrm_nn 6 (cutq (setF y t v) (t + 1))
  have lo : 599 / 10000000 ≤ lam - 6 * e7 := by rw [e7v]; grind
  have k1 := mul_le_l lo n0
  have hv : cutq (setF y t v) (t + 1) t = qr v := by unfold cutq; rw [if_pos (by omega), here]
  rw [hv] at at_
  have sq : qr v * qr v ≤ 320 * 320 := by grind
  have ab := ab_of_sq (by grind) sq
  have vb : Ab v 351843720888320 := by
   have e1 : qr v = (v : Rat) / 1099511627776 := rfl
   have a1 : ((v : Int) : Rat) ≤ ((351843720888320 : Int) : Rat) := by push_cast; grind
   have a2 : ((-351843720888320 : Int) : Rat) ≤ ((v : Int) : Rat) := by push_cast; grind
   exact ⟨Rat.intCast_le_intCast.1 a2, Rat.intCast_le_intCast.1 a1⟩
  refine ⟨setF y t v, ?_, fun k hk => ?_⟩
  ·unfold fwdS; rw [e]; dsimp only; rw [fsubs2 (hb t (by omega)) (by omega) fb]; dsimp only; rw [ev]
  ·by_cases c : k < t
   ·have e2 := rf_same (b := b) (L := L) (y := y) (y' := setF y t v) (t := k) (i := k) (fun j hj => same j (by omega))
    have Fk := F k c
    exact ⟨by rw [e2, same k c]; exact Fk.dv, by rw [e2, same k c]; exact Fk.R, by rw [same k c]; exact Fk.ub⟩
   ·have ek : k = t := by omega
    subst ek
    exact ⟨by rw [here, rf_same same]; exact ev, R', by rw [here]; exact vb⟩
end Go.Proofs.Ytooehgijllihdaa.Ff
namespace Go.Proofs.Ytooehgijllihdaa.Ff
open Go.RowKit
theorem sr_head {f : Nat → Rat} {a : Nat} (hz : ∀ k, k < a → f k = 0) : ∀ d, sr f (a + 1 + d) = f a + sr (fun t => f (a + 1 + t)) d
 | 0 => by
  show sr f a + f a = _
  rw [sr_zero hz]; simp only [sr]; grind
 | d + 1 => by
  show sr f (a + 1 + d) + f (a + 1 + d) = _
  rw [sr_head hz d]; simp only [sr]; grind
structure Bx (y : Nat → Int) (L : Nat → Nat → Int) (x : Nat → Int) (i : Nat) : Prop where
 dv : divS false (sb y L x i (5 - i)) (L i i) = (x i, false)
 R : DivR (x i) (sb y L x i (5 - i)) (L i i)
 ub : Ab (x i) 120946279055360000
theorem qb_bx {L : Nat → Nat → Int} {x : Nat → Int} {i k : Nat} (h : Ab (L k i) 1099511627776) (hx : Ab (x k) 120946279055360000) : mulS false (L k i) (x k) = (qb L x i k, false) ∧ MulR (qb L x i k) (L k i) (x k) ∧ Ab (qb L x i k) 120946279055360001 := by
 obtain ⟨e, r⟩ := qb_is h (hx.le (by decide))
 exact ⟨e, r, prod_bd h hx r (by decide)⟩
theorem sb_succ (y : Nat → Int) (L : Nat → Nat → Int) (x : Nat → Int) (i c : Nat) : sb y L x i (c + 1) = sb y L x i c - qb L x i (i + 1 + c) := by
 unfold sb; show y i - (sm (fun t => qb L x i (i + 1 + t)) c + qb L x i (i + 1 + c)) = _; omega
theorem sb_bd2 {y : Nat → Int} {L : Nat → Nat → Int} {x : Nat → Int} {i : Nat} (hy : Ab (y i) 351843720888320) : ∀ {c : Nat}, (∀ k, k < c → Ab (L (i + 1 + k) i) 1099511627776 ∧ Ab (x (i + 1 + k)) 120946279055360000) → Ab (sb y L x i c) (351843720888320 + c * 120946279055360001)
 | 0, _ => by
  have e : sb y L x i 0 = y i := by unfold sb; show y i - 0 = _; omega
  rw [e]; exact hy.le (by omega)
 | c + 1, h => by
  have ih := sb_bd2 hy (c := c) (fun k hk => h k (by omega))
  rw [sb_succ]
  exact (ih.sub (qb_bx (h c (by omega)).1 (h c (by omega)).2).2.2).le (by push_cast; omega)
theorem bsubs2 {y : Nat → Int} {L : Nat → Nat → Int} {x : Nat → Int} {i : Nat} (hy : Ab (y i) 351843720888320) : ∀ {c : Nat}, c ≤ 5 → (∀ k, k < c → Ab (L (i + 1 + k) i) 1099511627776 ∧ Ab (x (i + 1 + k)) 120946279055360000) → subsS false (y i) (fun t => L (i + 1 + t) i) (fun t => x (i + 1 + t)) c = (sb y L x i c, false)
 | 0, _, _ => by
  have e : sb y L x i 0 = y i := by unfold sb; show y i - 0 = _; omega
  rw [e]; rfl
 | c + 1, hc, h => by
  obtain ⟨e, r, q⟩ := qb_bx (h c (by omega)).1 (h c (by omega)).2
  unfold subsS
  rw [bsubs2 hy (c := c) (by omega) (fun k hk => h k (by omega))]
  dsimp only
  rw [e]
  dsimp only
  rw [sub_near (sb_bd2 hy (c := c) (fun k hk => h k (by omega))) q (by omega) (by omega) (by decide), sb_succ]
theorem sb_near {y : Nat → Int} {L : Nat → Nat → Int} {x : Nat → Int} {i c : Nat} (hc : c ≤ 5) (h : ∀ k, k < c → Ab (L (i + 1 + k) i) 1099511627776 ∧ Ab (x (i + 1 + k)) 120946279055360000) : Ab (2 * (sb y L x i c * 1099511627776 + sm (fun t => L (i + 1 + t) i * x (i + 1 + t)) c - y i * 1099511627776)) 5497558138880 := by
 have s := sm_near (f := fun t => 2 * (qb L x i (i + 1 + t) * 1099511627776)) (g := fun t => 2 * (L (i + 1 + t) i * x (i + 1 + t))) (K := 1099511627776) (n := c) (fun k hk => by
  have q := (qb_bx (h k hk).1 (h k hk).2).2.1
  have := q.lo; have := q.hi
  generalize L (i + 1 + k) i * x (i + 1 + k) = z at *
  exact ⟨by omega, by omega⟩)
 rw [sm_mul 2, sm_mul 2, sm_two] at s
 have e : sb y L x i c = y i - sm (fun t => qb L x i (i + 1 + t)) c := rfl
 rw [e]
 have h1 := s.lo; have h2 := s.hi
 generalize sm (fun t => L (i + 1 + t) i * x (i + 1 + t)) c = X at *
 generalize sm (fun t => qb L x i (i + 1 + t)) c = Y at *
 constructor <;> omega
theorem colq {L : Nat → Nat → Int} {x : Nat → Int} {u : Nat → Rat} {k : Nat} (hk : k ≤ 5) (hz : ∀ r, r < k → L r k = 0) (hu : ∀ r, k < r → r < 6 → u r = qr (x r)) : col L u k = lq L k k * u k + ((sm (fun t => L (k + 1 + t) k * x (k + 1 + t)) (5 - k) : Int) : Rat) / 1208925819614629174706176 := by
 unfold col
 have h := sr_head (f := fun r => lq L r k * u r) (a := k) (fun r hr => by unfold lq; rw [hz r hr, qr_zero]; grind) (5 - k)
 rw [show k + 1 + (5 - k) = 6 by omega] at h
 rw [h, sr_cast]
 have : ∀ t, t < 5 - k → lq L (k + 1 + t) k * u (k + 1 + t) = (1 / 1208925819614629174706176) * ((L (k + 1 + t) k * x (k + 1 + t) : Int) : Rat) := fun t ht => by
  rw [hu (k + 1 + t) (by omega) (by omega)]; unfold lq qr; push_cast; grind
 rw [sr_eq this, sr_mul]; grind
theorem near_q5 {s X y : Int} (h : Ab (2 * (s * 1099511627776 + X - y * 1099511627776)) 5497558138880) : qr s + (X : Rat) / 1208925819614629174706176 - qr y ≤ 5 / 2199023255552 ∧ -(5 / 2199023255552) ≤ qr s + (X : Rat) / 1208925819614629174706176 - qr y := by
 have h1 : ((2 * (s * 1099511627776 + X - y * 1099511627776) : Int) : Rat) ≤ ((5497558138880 : Int) : Rat) := Rat.intCast_le_intCast.2 h.hi
 have h2 : ((-5497558138880 : Int) : Rat) ≤ ((2 * (s * 1099511627776 + X - y * 1099511627776) : Int) : Rat) := Rat.intCast_le_intCast.2 h.lo
 push_cast at h1 h2
 unfold qr
 constructor <;> grind
theorem div_q {v s d : Int} (h : DivR v s d) (d1 : d ≤ 1099511627776) : qr d * qr v - qr s ≤ 1 / 2199023255552 ∧ -(1 / 2199023255552) ≤ qr d * qr v - qr s := by
 have h1 : ((2 * (v * d - s * 1099511627776) : Int) : Rat) ≤ ((d : Int) : Rat) := Rat.intCast_le_intCast.2 h.hi
 have h2 : ((-d : Int) : Rat) ≤ ((2 * (v * d - s * 1099511627776) : Int) : Rat) := Rat.intCast_le_intCast.2 h.lo
 have h3 : ((d : Int) : Rat) ≤ ((1099511627776 : Int) : Rat) := Rat.intCast_le_intCast.2 d1
 push_cast at h1 h2 h3
 unfold qr
 constructor <;> grind
theorem bx_near {y : Nat → Int} {L : Nat → Nat → Int} {x : Nat → Int} {u : Nat → Rat} {k : Nat} {m : Nat → Nat → Int} (W : Wh m L) (hk : k ≤ 5) (hx : ∀ r, k < r → r < 6 → Ab (x r) 120946279055360000) (R : DivR (x k) (sb y L x k (5 - k)) (L k k)) (hu : ∀ r, k ≤ r → r < 6 → u r = qr (x r)) :
  col L u k - qr (y k) ≤ 3 / 1099511627776 ∧ -(3 / 1099511627776) ≤ col L u k - qr (y k) := by
 have rt := (W.rows k (by omega)).1.root
 have c := colq (L := L) (x := x) (u := u) hk (fun r hr => W.zero r k (Or.inr hr)) (fun r h1 h2 => hu r (by omega) h2)
 have n := near_q5 (sb_near (y := y) (L := L) (x := x) (i := k) (c := 5 - k) (by omega) (fun t ht => ⟨W.ub _ _, hx _ (by omega) (by omega)⟩))
 have d := div_q R rt.2
 rw [c, hu k (Nat.le_refl _) (by omega)]
 unfold lq
 constructor <;> grind
theorem bwd_pd {m L : Nat → Nat → Int} {lam : Rat} {y : Nat → Int} (H : PD m lam) (hl : 6 / 100000 ≤ lam) (W : Wh m L) (hy : ∀ i, i < 6 → Ab (y i) 351843720888320) : ∀ {t : Nat}, t ≤ 6 → ∃ x, bwdS L y 6 false t = (x, false) ∧ ∀ k, 6 - t ≤ k → k < 6 → Bx y L x k
 | 0, _ => ⟨fun _ => 0, rfl, fun k h1 h2 => by omega⟩
 | t + 1, ht => by
  obtain ⟨x, e, F⟩ := bwd_pd H hl W hy (t := t) (by omega)
  obtain ⟨i, hi⟩ : ∃ i, i = 5 - t := ⟨_, rfl⟩
  have hi5 : i ≤ 5 := by omega
  have t5 : t = 5 - i := by omega
  obtain ⟨d1, d2⟩ := (W.rows i (by omega)).1.root
  have fb : ∀ k, k < 5 - i → Ab (L (i + 1 + k) i) 1099511627776 ∧ Ab (x (i + 1 + k)) 120946279055360000 := fun k hk => ⟨W.ub _ _, (F _ (by omega) (by omega)).ub⟩
  have fx : ∀ r, i < r → r < 6 → Ab (x r) 120946279055360000 := fun r h1 h2 => (F r (by omega) h2).ub
  -- the true quotient is bounded
  have lnz : lq L i i ≠ 0 := by
   have h1 : qr 3600000000 ≤ qr (L i i) := qr_le d1
   have h2 : qr 3600000000 = 3600000000 / 1099511627776 := by unfold qr; push_cast; rfl
   unfold lq; intro h; rw [h, h2] at h1; grind
  obtain ⟨u, hu⟩ : ∃ u : Nat → Rat, u = fun k => if k = i then qr (sb y L x i (5 - i)) / lq L i i else if i < k ∧ k < 6 then qr (x k) else 0 := ⟨_, rfl⟩
  have ui : u i = qr (sb y L x i (5 - i)) / lq L i i := by rw [hu]; exact if_pos rfl
  have ur : ∀ r, i < r → r < 6 → u r = qr (x r) := fun r h1 h2 => by rw [hu]; show (if r = i then _ else _) = _; rw [if_neg (by omega), if_pos ⟨h1, h2⟩]
  have uz : ∀ k, k < i ∨ 5 < k → u k = 0 := fun k hk => by rw [hu]; show (if k = i then _ else _) = _; rw [if_neg (by omega), if_neg (by omega)]
  have e320 : qr 351843720888320 = 320 := by unfold qr; push_cast; grind
  have nr := bwd_norm H W (s := i) hi5 u uz (B := 102401) (fun k h1 h2 => by
   have q := qr_ab (hy k h2)
   rw [e320] at q
   by_cases c : k = i
   ·subst c
    have cc := colq (L := L) (x := x) (u := u) (by omega) (fun r hr => W.zero r k (Or.inr hr)) ur
    have n := near_q5 (sb_near (y := y) (L := L) (x := x) (i := k) (c := 5 - k) (by omega) fb)
    rw [ui] at cc
    have e2 : lq L k k * (qr (sb y L x k (5 - k)) / lq L k k) = qr (sb y L x k (5 - k)) := by grind
    rw [e2] at cc
    rw [cc]
    have s := sq_bd (x := qr (sb y L x k (5 - k)) + ((sm (fun t => L (k + 1 + t) k * x (k + 1 + t)) (5 - k) : Int) : Rat) / 1208925819614629174706176) (y := 320 + 1 / 1000) (by grind) (by grind)
    grind
   ·have n := bx_near W (y := y) (x := x) (u := u) (k := k) (by omega) (fun r a b => fx r (by omega) b) (F k (by omega) h2).R (fun r a b => ur r (by omega) b)
    have s := sq_bd (x := col L u k) (y := 320 + 1 / 1000) (by grind) (by grind)
    grind) (by decide)
  have at_ := nrm_at u (k := i) (by omega)
  have n0 := nrm_nn 6 u
  have e7v : e7 = 7 / 1099511627776 := rfl
  have lo : 599 / 10000000 ≤ lam - 41 * e7 := by rw [e7v]; grind
  have k1 := mul_le_l lo n0
  have sq : u i * u i ≤ 101500 * 101500 := by grind
  have ab := ab_of_sq (by decide) sq
  have sbb : Ab (sb y L x i (5 - i)) (101500 * L i i) := by
   have e1 : (sb y L x i (5 - i) : Rat) = u i * (L i i : Rat) := by
    rw [ui]
    have : (sb y L x i (5 - i) : Rat) = qr (sb y L x i (5 - i)) * 1099511627776 := by unfold qr; grind
    have l2 : (L i i : Rat) = lq L i i * 1099511627776 := by unfold lq qr; grind
    rw [this, l2]; grind
   have l0 : 0 ≤ (L i i : Rat) := by
    have : ((0 : Int) : Rat) ≤ ((L i i : Int) : Rat) := Rat.intCast_le_intCast.2 (by omega)
    push_cast at this; exact this
   have m1 := mul_le_l ab.1 l0
   have m2 := mul_le_l ab.2 l0
   have a1 : ((sb y L x i (5 - i) : Int) : Rat) ≤ ((101500 * L i i : Int) : Rat) := by push_cast; rw [e1]; grind
   have a2 : ((-(101500 * L i i) : Int) : Rat) ≤ ((sb y L x i (5 - i) : Int) : Rat) := by push_cast; rw [e1]; grind
   exact ⟨Rat.intCast_le_intCast.1 a2, Rat.intCast_le_intCast.1 a1⟩
  obtain ⟨v, ev, R⟩ := div_near (a := sb y L x i (5 - i)) (b := L i i) (K := 101500 * L i i) sbb (by omega) (by omega) (by omega) (by omega)
  have vb : Ab v 120946279055360000 := by
   have s1 := sbb.lo; have s2 := sbb.hi; have r1 := R.lo; have r2 := R.hi
   constructor
   ·apply Classical.byContradiction; intro c
    have c' : v ≤ -120946279055360001 := by omega
    have := Int.mul_le_mul_of_nonneg_right c' (show 0 ≤ L i i by omega)
    omega
   ·apply Classical.byContradiction; intro c
    have c' : 120946279055360001 ≤ v := by omega
    have := Int.mul_le_mul_of_nonneg_right c' (show 0 ≤ L i i by omega)
    omega
  have same : ∀ k, i < k → setF x i v k = x k := fun k hk => by unfold setF; rw [if_neg (by omega)]
  have here : setF x i v i = v := by unfold setF; rw [if_pos rfl]
  refine ⟨setF x i v, ?_, fun k h1 h2 => ?_⟩
  ·unfold bwdS; rw [e]; dsimp only
   rw [show 6 - 1 - t = i by omega, t5, bsubs2 (hy i (by omega)) (by omega) fb]; dsimp only; rw [ev]
  ·by_cases c : 6 - t ≤ k
   ·have e2 := sb_same (y := y) (L := L) (x := x) (x' := setF x i v) (i := k) (c := 5 - k) (fun j hj => same j (by omega))
    have Fk := F k c h2
    have sk := same k (by omega)
    exact ⟨by rw [e2, sk]; exact Fk.dv, by rw [e2, sk]; exact Fk.R, by rw [sk]; exact Fk.ub⟩
   ·have ek : k = i := by omega
    subst ek
    have e2 := sb_same (y := y) (L := L) (x := x) (x' := setF x k v) (i := k) (c := 5 - k) same
    exact ⟨by rw [e2, here]; exact ev, by rw [e2, here]; exact R, by rw [here]; exact vb⟩
theorem solve_pd {m : Nat → Int} {g b : Nat → Int} {L : Nat → Nat → Int} {lam : Rat} (H : PD (mt m) lam) (hl : 6 / 100000 ≤ lam) (W : Wh (mt m) L) (G : Rel g L) (hb : ∀ i, i < 6 → Ab (b i) 1099511627776) :
  ∃ x y : Nat → Int, mSolveS false g b 6 = (x, false) ∧ (∀ i, i < 6 → Ab (x i) 120946279055360000) ∧
   (∀ i, i < 6 → sr (fun k => lq L i k * qr (y k)) 6 - qr (b i) ≤ 3 / 1099511627776 ∧ -(3 / 1099511627776) ≤ sr (fun k => lq L i k * qr (y k)) 6 - qr (b i)) ∧
   (∀ i, i < 6 → col L (fun k => qr (x k)) i - qr (y i) ≤ 3 / 1099511627776 ∧ -(3 / 1099511627776) ≤ col L (fun k => qr (x k)) i - qr (y i)) := by
 obtain ⟨y, ey, F⟩ := fwd_pd H hl W hb (Nat.le_refl 6)
 obtain ⟨x, ex, B⟩ := bwd_pd H hl W (fun i hi => (F i hi).ub) (Nat.le_refl 6)
 refine ⟨x, y, ?_, fun i hi => (B i (by omega) hi).ub, fun i hi => ?_, fun i hi => ?_⟩
 ·unfold mSolveS mforwardS
  dsimp only
  rw [fwd_k G false 6 (Nat.le_refl 6), ey]
  dsimp only
  rw [bwd_k G (Nat.le_refl 6) (y, false) false 6 (Nat.le_refl 6), ex]
  rfl
 ·have r := rowq (L := L) (y := y) (r := i) (t := 6) hi (Nat.le_refl 6) (fun k hk => W.zero i k (Or.inr hk))
  have e : sr (fun k => lq L i k * cutq y 6 k) 6 = sr (fun k => lq L i k * qr (y k)) 6 := sr_eq fun k hk => by unfold cutq; rw [if_pos hk]
  rw [← e, r]
  exact near_q3 (fx_near (by omega) (fun k => W.ub i k) (fun k hk => (F k (by omega)).ub) (F i hi).R ((W.rows i hi).1.root.2))
 ·exact bx_near W (by omega) (fun r a c => (B r (by omega) c).ub) (B i (by omega) hi).R (fun r _ _ => rfl)
end Go.Proofs.Ytooehgijllihdaa.Ff
namespace Go.Proofs.Ytooehgijllihdaa.Ff
open Go.RowKit
def sum13 (x : Nat → Rat) : Rat := 2 * x 0 + sr (fun t => x (t + 1)) 12
theorem mean_l0 {x : Nat → Int} {i : Nat} {K : Int} (hK : K ≤ 144115188075855872) (hx : ∀ k, k < 13 → Ab (x (k * 6 + i)) K) : ∀ {n : Nat}, n ≤ 12 → fmeanS_l0 x i (x i + x i, false) n = (x i + x i + sm (fun t => x ((t + 1) * 6 + i)) n, false) ∧ Ab (x i + x i + sm (fun t => x ((t + 1) * 6 + i)) n) ((n + 2) * K)
 | 0, _ => by
  have h := hx 0 (by omega)
  rw [show 0 * 6 + i = i by omega] at h
  have := h.lo; have := h.hi
  refine ⟨?_, ?_⟩
  ·show (x i + x i, false) = (x i + x i + 0, false); rw [Int.add_zero]
  ·show Ab (x i + x i + 0) _; exact ⟨by omega, by omega⟩
 | n + 1, hn => by
  obtain ⟨e, b⟩ := mean_l0 hK hx (n := n) (by omega)
  have h := hx (n + 1) (by omega)
  have K0 : 0 ≤ K := by have := h.lo; have := h.hi; omega
  have nb : ((n : Int) + 2) * K ≤ 13 * K := Int.mul_le_mul_of_nonneg_right (by omega) K0
  rw [fmeanS_l0_succ, e]
  unfold fmeanS_l0s
  dsimp only
  rw [add_near b h (by omega) (by omega) (by omega)]
  have bb := b.add h
  have e2 : ((n : Int) + 2) * K + K = (((n + 1 : Nat) : Int) + 2) * K := by push_cast; grind
  rw [e2] at bb
  show (x i + x i + sm (fun t => x ((t + 1) * 6 + i)) n + x ((n + 1) * 6 + i), false) = (x i + x i + (sm (fun t => x ((t + 1) * 6 + i)) n + x ((n + 1) * 6 + i)), false) ∧ Ab (x i + x i + (sm (fun t => x ((t + 1) * 6 + i)) n + x ((n + 1) * 6 + i))) _
  rw [← Int.add_assoc]
  exact ⟨rfl, bb⟩
theorem mean_near {x : Nat → Int} {i : Nat} {K : Int} (hK : K ≤ 144115188075855872) (hx : ∀ k, k < 13 → Ab (x (k * 6 + i)) K) : ∃ m, fmeanS false x i = (m, false) ∧ Nr (qr m) (sum13 (fun k => qr (x (k * 6 + i))) / 14) (1 / 2199023255552) := by
 have h0 := hx 0 (by omega)
 rw [show 0 * 6 + i = i by omega] at h0
 have K0 : 0 ≤ K := by have := h0.lo; have := h0.hi; omega
 obtain ⟨e, b⟩ := mean_l0 hK hx (Nat.le_refl 12)
 have a1 := add_near (⟨by decide, by decide⟩ : Ab 0 0) h0 (by omega) (by decide) (by omega)
 have a2 := add_near h0 h0 (by omega) (by omega) (by omega)
 generalize hS : x i + x i + sm (fun t => x ((t + 1) * 6 + i)) 12 = S at *
 have b' : Ab S (14 * K) := b.le (by omega)
 obtain ⟨m, em, m1, m2, _⟩ := partS_near S 1 14 (b'.numB (by omega)) (by rfl) (by rfl) (by decide) (by
  rw [show sz 1 = 1 by rfl]
  have := b'.lo; have := b'.hi
  unfold sz; split <;> omega)
 refine ⟨m, ?_, ?_⟩
 ·unfold fmeanS
  dsimp only
  rw [a1]
  dsimp only
  rw [Int.zero_add, a2]
  dsimp only
  rw [e]
  dsimp only
  rw [em]
 ·have c1 : ((2 * (m * 14) : Int) : Rat) ≤ ((2 * (S * 1) + 14 : Int) : Rat) := Rat.intCast_le_intCast.2 m1
  have c2 : ((2 * (S * 1) : Int) : Rat) ≤ ((2 * (m * 14) + 14 : Int) : Rat) := Rat.intCast_le_intCast.2 m2
  push_cast at c1 c2
  have eS : (S : Rat) = 1099511627776 * sum13 (fun k => qr (x (k * 6 + i))) := by
   rw [← hS]
   push_cast
   rw [sr_cast]
   unfold sum13
   have : ∀ t, ((x ((t + 1) * 6 + i) : Int) : Rat) = 1099511627776 * qr (x ((t + 1) * 6 + i)) := fun t => by unfold qr; grind
   rw [sr_eq fun t _ => this t, sr_mul]
   have : ((x i : Int) : Rat) = 1099511627776 * qr (x (0 * 6 + i)) := by rw [show 0 * 6 + i = i by omega]; unfold qr; grind
   rw [this]; grind
  rw [eS] at c1 c2
  have em : qr m = (m : Rat) / 1099511627776 := rfl
  constructor <;> grind
theorem prods_l0 {x y : Nat → Int} {i j : Nat} (h : ∀ k, k < 13 → (mulS false (x (k * 6 + i)) (y (k * 6 + j))).2 = false) : ∀ {n : Nat}, n ≤ 13 → (fproductsS_l0 x i y j ((fun _ => 0), false) n).2 = false ∧ ∀ k, k < n → (fproductsS_l0 x i y j ((fun _ => 0), false) n).1 (k * 6) = (mulS false (x (k * 6 + i)) (y (k * 6 + j))).1
 | 0, _ => ⟨rfl, fun k hk => by omega⟩
 | n + 1, hn => by
  obtain ⟨e, v⟩ := prods_l0 h (n := n) (by omega)
  rw [fproductsS_l0_succ]
  unfold fproductsS_l0s
  dsimp only
  rw [e]
  refine ⟨h n (by omega), fun k hk => ?_⟩
  by_cases c : k = n
  ·subst c; rw [updF_at]
  ·rw [updF_off _ _ (by omega)]; exact v k (by omega)
theorem prod_near {x y : Nat → Int} {i j : Nat} (hx : ∀ k, k < 13 → Ab (x (k * 6 + i)) 8796093022208) (hy : ∀ k, k < 13 → Ab (y (k * 6 + j)) 8796093022208) : ∃ m, fproductsS false x i y j = (m, false) ∧ Nr (qr m) (sum13 (fun k => qr (x (k * 6 + i)) * qr (y (k * 6 + j))) / 14) (1 / 1099511627776) ∧ Ab m 70368744177667 := by
 have near := fun k hk => mul_near (hx k hk) (hy k hk) (by decide) (by decide)
 have good : ∀ k, k < 13 → (mulS false (x (k * 6 + i)) (y (k * 6 + j))).2 = false := fun k hk => by obtain ⟨m, e, _⟩ := near k hk; rw [e]
 obtain ⟨e, v⟩ := prods_l0 good (Nat.le_refl 13)
 generalize hr : fproductsS_l0 x i y j ((fun _ => 0), false) 13 = r at *
 have val : ∀ k, k < 13 → Ab (r.1 (k * 6 + 0)) 70368744177665 ∧ Nr (qr (r.1 (k * 6 + 0))) (qr (x (k * 6 + i)) * qr (y (k * 6 + j))) (1 / 2199023255552) := fun k hk => by
  obtain ⟨m, em, R⟩ := near k hk
  rw [Nat.add_zero, v k hk, em]
  exact ⟨prod_bd (hx k hk) (hy k hk) R (by decide), mul_qn R⟩
 obtain ⟨m, em, nm⟩ := mean_near (x := r.1) (i := 0) (K := 70368744177665) (by decide) (fun k hk => (val k hk).1)
 have cl : Nr (sum13 (fun k => qr (r.1 (k * 6 + 0))) / 14) (sum13 (fun k => qr (x (k * 6 + i)) * qr (y (k * 6 + j))) / 14) (1 / 2199023255552) := by
  have s : ∀ n, n ≤ 12 → Nr (sr (fun t => qr (r.1 ((t + 1) * 6 + 0))) n) (sr (fun t => qr (x ((t + 1) * 6 + i)) * qr (y ((t + 1) * 6 + j))) n) (n * (1 / 2199023255552)) := by
   intro n
   induction n with
   | zero => intro _; exact ⟨by show (0 : Rat) - 0 ≤ _; push_cast; grind, by show _ ≤ (0 : Rat) - 0; push_cast; grind⟩
   | succ n ih =>
    intro hn
    have a := (ih (by omega)).add (val (n + 1) (by omega)).2
    refine ⟨?_, ?_⟩
    ·have := a.hi; simp only [sr]; push_cast; grind
    ·have := a.lo; simp only [sr]; push_cast; grind
  have s12 := s 12 (Nat.le_refl _)
  have v0 := (val 0 (by omega)).2
  have := s12.hi; have := s12.lo; have := v0.hi; have := v0.lo
  unfold sum13
  push_cast at *
  constructor <;> grind
 have tot := nm.trans cl
 refine ⟨m, ?_, tot.le (by grind), ?_⟩
 ·unfold fproductsS
  dsimp only
  rw [hr, e]
  rw [em]
 ·-- how great it is
  have bd : ∀ k, k < 13 → qr (r.1 (k * 6 + 0)) ≤ 64 + 1 / 1000000000000 ∧ -(64 + 1 / 1000000000000) ≤ qr (r.1 (k * 6 + 0)) := fun k hk => by
   have := qr_ab (val k hk).1
   have e : qr 70368744177665 = 70368744177665 / 1099511627776 := by unfold qr; push_cast; rfl
   rw [e] at this
   constructor <;> grind
  have up : ∀ n, n ≤ 12 → sr (fun t => qr (r.1 ((t + 1) * 6 + 0))) n ≤ n * (64 + 1 / 1000000000000) ∧ -(n * (64 + 1 / 1000000000000)) ≤ sr (fun t => qr (r.1 ((t + 1) * 6 + 0))) n := by
   intro n
   induction n with
   | zero => intro _; exact ⟨by show (0 : Rat) ≤ _; push_cast; grind, by show _ ≤ (0 : Rat); push_cast; grind⟩
   | succ n ih =>
    intro hn
    have a := ih (by omega); have b := bd (n + 1) (by omega)
    refine ⟨?_, ?_⟩ <;> (simp only [sr]; push_cast; grind)
  have u := up 12 (Nat.le_refl _)
  have b0 := bd 0 (by omega)
  have h := nm.hi; have l := nm.lo
  unfold sum13 at h l
  push_cast at u
  have e : qr m = (m : Rat) / 1099511627776 := rfl
  have a1 : ((m : Int) : Rat) ≤ ((70368744177667 : Int) : Rat) := by push_cast; grind
  have a2 : ((-70368744177667 : Int) : Rat) ≤ ((m : Int) : Rat) := by push_cast; grind
  exact ⟨Rat.intCast_le_intCast.1 a2, Rat.intCast_le_intCast.1 a1⟩
end Go.Proofs.Ytooehgijllihdaa.Ff
namespace Go.Proofs.Ytooehgijllihdaa.Ff
theorem upd_ge {J A aa bb e G W t : Rat} (h : J - A ≤ e * (aa + bb)) (h1 : aa ≤ G * J) (h2 : bb ≤ W * J) (e0 : 0 ≤ e) (J0 : 0 ≤ J) (ht : e * (G + W) ≤ t) : (1 - t) * J ≤ A := by
 have k := mul_le_l (show aa + bb ≤ (G + W) * J by grind) e0
 have k2 := mul_le_l ht J0
 grind
theorem led_le {x w J A V G t E V3 : Rat} (h : x * x ≤ V * J) (hw : w * w ≤ E * (G * J)) (hA : (1 - t) * J ≤ A) (J0 : 0 ≤ J) (hV : 0 ≤ V3) (h3 : (1 + 1 / 1000000) * V + 1000001 * (E * G) ≤ V3 * (1 - t)) : (x - w) * (x - w) ≤ V3 * A := by
 have s := split x (-w) (1 / 1000000) 1000000 (by decide +kernel) (by decide +kernel)
 have k1 := mul_le_l h3 J0
 have k2 := mul_le_l hA hV
 grind
theorem len_le {d : R3} {V up : Rat} {A : R3 → Rat} (V0 : 0 ≤ V) (h1 : ∀ a, dt a d * dt a d ≤ V * A a) (h2 : ∀ a, A a ≤ up * dt a a) : dt d d ≤ V * up := by
 have k1 := h1 d
 have k2 := mul_le_l (h2 d) V0
 have n := dt_nn d
 apply Classical.byContradiction; intro c
 have c1 : V * up < dt d d := by grind
 by_cases z : dt d d = 0
 ·have : 0 ≤ V * up := by
   apply Classical.byContradiction; intro c2
   have e1 : dt (⟨1, 0, 0⟩ : R3) ⟨1, 0, 0⟩ = 1 := by simp only [dt]; grind
   have a1 := h1 ⟨1, 0, 0⟩
   have a2 := mul_le_l (h2 ⟨1, 0, 0⟩) V0
   have a3 := sq_nn (dt (⟨1, 0, 0⟩ : R3) d)
   rw [e1] at a2
   grind
  grind
 ·have p : 0 < dt d d := by grind
  have := Rat.mul_pos p (show 0 < dt d d - V * up by grind)
  grind
theorem turn_le {x d x' : R3} {K D : Rat} (hD : D = den x d) (D1 : 0 < D) (hx : sc D x' = sc 16 (cmp x d)) (hK : dt (ext x d) (ext x d) ≤ K * dt (sb3 x d) (sb3 x d)) {k2 : Rat} (hk : K ≤ k2 * (D * D)) : dt (sb3 x' (sb3 x d)) (sb3 x' (sb3 x d)) ≤ k2 * dt (sb3 x d) (sb3 x d) := by
 have e : ext x d = sc D (sb3 x' (sb3 x d)) := by
  have h0 : sc D (sb3 x' (sb3 x d)) = sb3 (sc D x') (sc D (sb3 x d)) := by simp only [sc, sb3]; congr 1 <;> grind
  rw [h0, hx, hD]; rfl
 rw [e, sc_sq] at hK
 have n := dt_nn (sb3 x d)
 have k1 := mul_le_l hk n
 have p : 0 < D * D := Rat.mul_pos D1 D1
 have q : (D * D) * dt (sb3 x' (sb3 x d)) (sb3 x' (sb3 x d)) ≤ (D * D) * (k2 * dt (sb3 x d) (sb3 x d)) := by grind
 exact Rat.le_of_mul_le_mul_left q p
theorem off_le {y d : R3} {k V up lo : Rat} {A : R3 → Rat} (V0 : 0 < V) (h1 : ∀ a, dt a d * dt a d ≤ V * A a) (h2 : dt d d ≤ V * up) (h3 : ∀ a, lo * dt a a ≤ A a) (hy : dt (sb3 y d) (sb3 y d) ≤ k * k * dt d d)
  {nu : Rat} (n0 : 0 < nu) (hn : k * k * up ≤ nu * nu * lo) (a : R3) : dt a y * dt a y ≤ V * ((1 + nu) * (1 + nu)) * A a := by
 have e : dt a y = dt a d + dt a (sb3 y d) := by simp only [dt, sb3]; grind
 have cs := cauchy a (sb3 y d)
 have na := dt_nn a
 have s1 := mul_le_l hy na
 have s2 := mul_le_l h2 (Rat.mul_nonneg (sq_nn k) na)
 have s3 := mul_le_l hn (Rat.mul_nonneg (Rat.le_of_lt V0) na)
 have s4 := mul_le_l (h3 a) (Rat.mul_nonneg (sq_nn nu) (Rat.le_of_lt V0))
 have q : dt a (sb3 y d) * dt a (sb3 y d) ≤ (V * nu) * (nu * A a) := by grind
 have t := two (dt a d) (dt a (sb3 y d)) V (V * nu) (A a) (nu * A a) V0 (Rat.mul_pos V0 n0) (h1 a) q
 rw [e]
 grind
theorem long_le {y d : R3} {k B : Rat} (k0 : 0 ≤ k) (h2 : dt d d ≤ B) (hy : dt (sb3 y d) (sb3 y d) ≤ k * k * dt d d) : dt y y ≤ (1 + k) * (1 + k) * B := by
 have e : y = ad d (sb3 y d) := by obtain ⟨y1, y2, y3⟩ := y; simp only [ad, sb3]; congr 1 <;> grind
 by_cases z : k = 0
 ·subst z
  have h0 : dt (sb3 y d) (sb3 y d) = 0 := by have := dt_nn (sb3 y d); grind
  have hz : sb3 y d = ⟨0, 0, 0⟩ := by
   have s0 := sq_nn (sb3 y d).x; have s1 := sq_nn (sb3 y d).y; have s2 := sq_nn (sb3 y d).z
   simp only [dt] at h0
   have zero : ∀ x : Rat, x * x = 0 → x = 0 := fun x hx => by
    apply Classical.byContradiction; intro c
    by_cases h : 0 < x
    ·have := Rat.mul_pos h h; grind
    ·by_cases h2 : x < 0
     ·have := Rat.mul_pos (show 0 < -x by grind) (show 0 < -x by grind); grind
     ·exact c (by grind)
   have z1 := zero _ (show (sb3 y d).x * (sb3 y d).x = 0 by grind)
   have z2 := zero _ (show (sb3 y d).y * (sb3 y d).y = 0 by grind)
   have z3 := zero _ (show (sb3 y d).z * (sb3 y d).z = 0 by grind)
   generalize sb3 y d = w at *
   obtain ⟨w1, w2, w3⟩ := w
   simp only at z1 z2 z3
   subst z1 z2 z3; rfl
  have : dt y y = dt d d := by rw [e, hz]; simp only [dt, ad]; grind
  rw [this]; grind
 ·have kp : 0 < k := by grind
  have t := two_v d (sb3 y d) 1 k (dt d d) (k * dt d d) (by decide +kernel) kp (by grind) (by grind)
  rw [← e] at t
  have := mul_le_l h2 (sq_nn (1 + k))
  grind
end Go.Proofs.Ytooehgijllihdaa.Ff
namespace Go.Proofs.Ytooehgijllihdaa.Ff
open Go.RowKit
theorem quad_add (f g : Nat → Nat → Rat) (n : Nat) (a : Nat → Rat) : quad (fun r s => f r s + g r s) n a = quad f n a + quad g n a := by
 unfold quad
 have : ∀ r, a r * sr (fun s => (f r s + g r s) * a s) n = a r * sr (fun s => f r s * a s) n + a r * sr (fun s => g r s * a s) n := fun r => by
  rw [show sr (fun s => (f r s + g r s) * a s) n = sr (fun s => f r s * a s) n + sr (fun s => g r s * a s) n by rw [← sr_add]; exact sr_eq fun s _ => by grind]; grind
 rw [sr_eq fun r _ => this r, sr_add]
theorem quad_mul (c : Rat) (f : Nat → Nat → Rat) (n : Nat) (a : Nat → Rat) : quad (fun r s => c * f r s) n a = c * quad f n a := by
 unfold quad
 have : ∀ r, a r * sr (fun s => (c * f r s) * a s) n = c * (a r * sr (fun s => f r s * a s) n) := fun r => by
  rw [show sr (fun s => (c * f r s) * a s) n = c * sr (fun s => f r s * a s) n by rw [← sr_mul]; exact sr_eq fun s _ => by grind]; grind
 rw [sr_eq fun r _ => this r, sr_mul]
theorem quad_nought (n : Nat) (a : Nat → Rat) : quad (fun _ _ => 0) n a = 0 := by
 unfold quad; exact sr_zero fun r _ => by rw [sr_zero fun s _ => by grind]; grind
theorem quad_outer (l : Nat → Rat) (n : Nat) (a : Nat → Rat) : quad (fun r s => l r * l s) n a = sr (fun r => l r * a r) n * sr (fun r => l r * a r) n := by
 have h := quad_sub (fun _ _ => 0) l n a
 rw [quad_nought] at h
 have e : quad (fun r s => (0 : Rat) - l r * l s) n a = quad (fun r s => (-1) * (l r * l s)) n a := quad_eq a fun r s => by grind
 rw [e, quad_mul] at h
 grind
theorem quad_sum (X : Nat → Nat → Rat) (n : Nat) (a : Nat → Rat) : ∀ k, quad (fun r s => sr (fun t => X (t + 1) r * X (t + 1) s) k) n a = sr (fun t => sr (fun r => X (t + 1) r * a r) n * sr (fun r => X (t + 1) r * a r) n) k
 | 0 => by simp only [sr]; exact quad_nought n a
 | k + 1 => by
  simp only [sr]
  rw [quad_add, quad_sum X n a k, quad_outer]
theorem quad_mom (X : Nat → Nat → Rat) (n : Nat) (a : Nat → Rat) : quad (fun r s => sum13 (fun k => X k r * X k s) / 14) n a = sum13 (fun k => sr (fun r => X k r * a r) n * sr (fun r => X k r * a r) n) / 14 := by
 have e : quad (fun r s => sum13 (fun k => X k r * X k s) / 14) n a = quad (fun r s => (1 / 7) * (X 0 r * X 0 s) + (1 / 14) * sr (fun t => X (t + 1) r * X (t + 1) s) 12) n a := quad_eq a fun r s => by unfold sum13; grind
 rw [e, quad_add, quad_mul, quad_mul, quad_outer, quad_sum]
 unfold sum13; grind
theorem small_any {f : Nat → Nat → Rat} {e : Rat} {n : Nat} (e0 : 0 ≤ e) (h : ∀ r s, r < n → s < n → f r s ≤ e ∧ -e ≤ f r s) (a : Nat → Rat) : quad f n a ≤ n * e * nrm n a := by
 have k : ∀ r, r < n → 2 * (a r * sr (fun s => f r s * a s) n) ≤ e * (n * (a r * a r)) + e * nrm n a := fun r hr => by
  have := small_row (f := f r) (a := a) (n := n) (e := e) (c := a r) (fun s hs => Or.inl (h r s hr hs)) e0
  grind
 have s := sr_le k
 rw [sr_mul, sr_add, sr_mul e, sr_mul n] at s
 have cn : ∀ m : Nat, sr (fun _ => e * nrm n a) m = m * (e * nrm n a) := by
  intro m
  induction m with
  | zero => simp only [sr]; push_cast; grind
  | succ m ih => simp only [sr]; rw [ih]; push_cast; grind
 rw [cn] at s
 unfold quad
 unfold nrm at *
 grind
theorem small_any' {f : Nat → Nat → Rat} {e : Rat} {n : Nat} (e0 : 0 ≤ e) (h : ∀ r s, r < n → s < n → f r s ≤ e ∧ -e ≤ f r s) (a : Nat → Rat) : -(n * e * nrm n a) ≤ quad f n a := by
 have k := small_any (f := fun r s => (-1) * f r s) e0 (fun r s hr hs => ⟨by have := (h r s hr hs).2; grind, by have := (h r s hr hs).1; grind⟩) a
 rw [quad_mul] at k
 grind
theorem quad_near {f g : Nat → Nat → Rat} {e : Rat} {n : Nat} (e0 : 0 ≤ e) (h : ∀ r s, r < n → s < n → Nr (f r s) (g r s) e) (a : Nat → Rat) : Nr (quad f n a) (quad g n a) (n * e * nrm n a) := by
 have d : quad f n a = quad (fun r s => (f r s - g r s) + g r s) n a := quad_eq a fun r s => by grind
 rw [d, quad_add]
 have u := small_any (f := fun r s => f r s - g r s) e0 (fun r s hr hs => ⟨(h r s hr hs).hi, (h r s hr hs).lo⟩) a
 have l := small_any' (f := fun r s => f r s - g r s) e0 (fun r s hr hs => ⟨(h r s hr hs).hi, (h r s hr hs).lo⟩) a
 constructor <;> grind
theorem quad_diag (R : Nat → Rat) (a : Nat → Rat) : ∀ n, quad (fun r s => if r = s then R r else 0) n a = sr (fun r => R r * (a r * a r)) n := fun n => by
 unfold quad
 exact sr_eq fun r hr => by
  have : ∀ s, (if r = s then R r else 0) * a s = if s = r then R r * a r else 0 := fun s => by
   by_cases h : r = s
   ·subst h; rw [if_pos rfl, if_pos rfl]
   ·rw [if_neg h, if_neg (fun c => h c.symm)]; grind
  rw [sr_eq fun s _ => this s, sr_one r _ hr]; grind
def w9 (a b1 b2 : R3) : Nat → Rat := fun k => if k = 0 then a.x else if k = 1 then a.y else if k = 2 then a.z else if k = 3 then -b1.x else if k = 4 then -b1.y else if k = 5 then -b1.z else if k = 6 then -b2.x else if k = 7 then -b2.y else -b2.z
theorem nrm_w9 (a b1 b2 : R3) : nrm 9 (w9 a b1 b2) = dt a a + dt b1 b1 + dt b2 b2 := by
 unfold nrm; simp only [sr, w9, dt]; simp; grind
def vwOf (X : Nat → Nat → Rat) (k : Nat) : Vw :=
 ⟨⟨X k 0, X k 1, X k 2⟩, ⟨(X k 3 - X (k + 6) 3) / 2, (X k 4 - X (k + 6) 4) / 2, (X k 5 - X (k + 6) 5) / 2⟩, ⟨(X k 6 - X (k + 6) 6) / 2, (X k 7 - X (k + 6) 7) / 2, (X k 8 - X (k + 6) 8) / 2⟩,
  ⟨(X k 3 + X (k + 6) 3) / 2 - X 0 3, (X k 4 + X (k + 6) 4) / 2 - X 0 4, (X k 5 + X (k + 6) 5) / 2 - X 0 5⟩, ⟨(X k 6 + X (k + 6) 6) / 2 - X 0 6, (X k 7 + X (k + 6) 7) / 2 - X 0 7, (X k 8 + X (k + 6) 8) / 2 - X 0 8⟩⟩
def row9 (X : Nat → Nat → Rat) (k : Nat) (a b1 b2 : R3) : Rat := sr (fun r => X k r * w9 a b1 b2 r) 9
structure Thirteen (X : Nat → Nat → Rat) : Prop where
 zero : ∀ i, i < 3 → X 0 i = 0
 bias : ∀ k, k = 4 ∨ k = 5 ∨ k = 6 ∨ k = 10 ∨ k = 11 ∨ k = 12 → ∀ i, i < 9 → X k i = X 0 i
 opp : ∀ k, k = 1 ∨ k = 2 ∨ k = 3 → ∀ i, i < 3 → X (k + 6) i = -X k i
theorem row9_is (X : Nat → Nat → Rat) (k : Nat) (a b1 b2 : R3) : row9 X k a b1 b2 = (X k 0 * a.x + X k 1 * a.y + X k 2 * a.z) - (X k 3 * b1.x + X k 4 * b1.y + X k 5 * b1.z) - (X k 6 * b2.x + X k 7 * b2.y + X k 8 * b2.z) := by
 unfold row9; simp only [sr, w9]; simp; grind
theorem mom_both {X : Nat → Nat → Rat} (T : Thirteen X) (R1 R2 : Rat) (a b1 b2 : R3) :
  sum13 (fun k => row9 X k a b1 b2 * row9 X k a b1 b2) / 14 + nn R1 R2 b1 b2 = bothJ R1 R2 (vwOf X 1) (vwOf X 2) (vwOf X 3) ((mnG (vwOf X 1) (vwOf X 2) (vwOf X 3) b1 b2 + (X 0 3 * b1.x + X 0 4 * b1.y + X 0 5 * b1.z + (X 0 6 * b2.x + X 0 7 * b2.y + X 0 8 * b2.z))) * (mnG (vwOf X 1) (vwOf X 2) (vwOf X 3) b1 b2 + (X 0 3 * b1.x + X 0 4 * b1.y + X 0 5 * b1.z + (X 0 6 * b2.x + X 0 7 * b2.y + X 0 8 * b2.z)))) a b1 b2 := by
 have same : ∀ k, k = 4 ∨ k = 5 ∨ k = 6 ∨ k = 10 ∨ k = 11 ∨ k = 12 → row9 X k a b1 b2 = row9 X 0 a b1 b2 := fun k hk => by
  unfold row9; exact sr_eq fun i hi => by rw [T.bias k hk i hi]
 have z0 : row9 X 0 a b1 b2 = -(X 0 3 * b1.x + X 0 4 * b1.y + X 0 5 * b1.z + (X 0 6 * b2.x + X 0 7 * b2.y + X 0 8 * b2.z)) := by
  rw [row9_is, T.zero 0 (by omega), T.zero 1 (by omega), T.zero 2 (by omega)]; grind
 have op : ∀ k, k = 1 ∨ k = 2 ∨ k = 3 → row9 X k a b1 b2 = (dt a (vwOf X k).p - (vwOf X k).w b1 b2) - ((vwOf X k).g b1 b2 + (X 0 3 * b1.x + X 0 4 * b1.y + X 0 5 * b1.z + (X 0 6 * b2.x + X 0 7 * b2.y + X 0 8 * b2.z))) ∧
   row9 X (k + 6) a b1 b2 = -(dt a (vwOf X k).p - (vwOf X k).w b1 b2) - ((vwOf X k).g b1 b2 + (X 0 3 * b1.x + X 0 4 * b1.y + X 0 5 * b1.z + (X 0 6 * b2.x + X 0 7 * b2.y + X 0 8 * b2.z))) := fun k hk => by
  rw [row9_is, row9_is, T.opp k hk 0 (by omega), T.opp k hk 1 (by omega), T.opp k hk 2 (by omega)]
  unfold vwOf Vw.w Vw.g dt
  constructor <;> grind
 have e1 := op 1 (by omega); have e2 := op 2 (by omega); have e3 := op 3 (by omega)
 have s4 := same 4 (by omega); have s5 := same 5 (by omega); have s6 := same 6 (by omega); have s10 := same 10 (by omega); have s11 := same 11 (by omega); have s12 := same 12 (by omega)
 unfold sum13
 simp only [sr]
 rw [e1.1, e2.1, e3.1, s4, s5, s6, e1.2, e2.2, e3.2, s10, s11, s12, z0]
 generalize X 0 3 * b1.x + X 0 4 * b1.y + X 0 5 * b1.z + (X 0 6 * b2.x + X 0 7 * b2.y + X 0 8 * b2.z) = d at *
 unfold bothJ oddJ evnJ sqG mnG
 generalize dt a (vwOf X 1).p = a1 at *
 generalize dt a (vwOf X 2).p = a2 at *
 generalize dt a (vwOf X 3).p = a3 at *
 generalize (vwOf X 1).w b1 b2 = u1 at *
 generalize (vwOf X 2).w b1 b2 = u2 at *
 generalize (vwOf X 3).w b1 b2 = u3 at *
 generalize (vwOf X 1).g b1 b2 = g1 at *
 generalize (vwOf X 2).g b1 b2 = g2 at *
 generalize (vwOf X 3).g b1 b2 = g3 at *
 grind
theorem nine_both {m : Nat → Nat → Rat} {X : Nat → Nat → Rat} {R1 R2 e : Rat} (T : Thirteen X) (e0 : 0 ≤ e)
  (h : ∀ r s, r < 9 → s < 9 → Nr (m r s) (sum13 (fun k => X k r * X k s) / 14 + (if r = s then (if r < 3 then 0 else if r < 6 then R1 else R2) else 0)) e) (a b1 b2 : R3) :
  ∃ r, 0 ≤ r ∧ r = (mnG (vwOf X 1) (vwOf X 2) (vwOf X 3) b1 b2 + (X 0 3 * b1.x + X 0 4 * b1.y + X 0 5 * b1.z + (X 0 6 * b2.x + X 0 7 * b2.y + X 0 8 * b2.z))) * (mnG (vwOf X 1) (vwOf X 2) (vwOf X 3) b1 b2 + (X 0 3 * b1.x + X 0 4 * b1.y + X 0 5 * b1.z + (X 0 6 * b2.x + X 0 7 * b2.y + X 0 8 * b2.z))) ∧
   Nr (quad m 9 (w9 a b1 b2)) (bothJ R1 R2 (vwOf X 1) (vwOf X 2) (vwOf X 3) r a b1 b2) (9 * e * (dt a a + dt b1 b1 + dt b2 b2)) := by
 refine ⟨_, sq_nn _, rfl, ?_⟩
 have q := quad_near e0 h (w9 a b1 b2)
 rw [quad_add, quad_mom, quad_diag (fun r => if r < 3 then 0 else if r < 6 then R1 else R2), nrm_w9] at q
 rw [← mom_both T R1 R2 a b1 b2]
 have dg : sr (fun r => (if r < 3 then 0 else if r < 6 then R1 else R2) * (w9 a b1 b2 r * w9 a b1 b2 r)) 9 = nn R1 R2 b1 b2 := by
  simp only [sr, w9, nn, dt]; simp; grind
 rw [dg] at q
 push_cast at q
 exact q
end Go.Proofs.Ytooehgijllihdaa.Ff
namespace Go.Proofs.Ytooehgijllihdaa.Ff
open Go.RowKit
def rowm (m : Nat → Nat → Rat) (n : Nat) (w : Nat → Rat) (r : Nat) : Rat := sr (fun s => m r s * w s) n
theorem quad_two {m : Nat → Nat → Rat} {n : Nat} (sym : ∀ r s, r < n → s < n → m r s = m s r) (a d : Nat → Rat) : quad m n (fun k => a k + d k) = quad m n a + 2 * sr (fun r => d r * rowm m n a r) n + quad m n d := by
 have e : ∀ r, sr (fun s => m r s * (a s + d s)) n = rowm m n a r + rowm m n d r := fun r => by
  unfold rowm; rw [← sr_add]; exact sr_eq fun s _ => by grind
 have sw : sr (fun r => a r * rowm m n d r) n = sr (fun r => d r * rowm m n a r) n := by
  have l : sr (fun r => a r * rowm m n d r) n = sr (fun r => sr (fun s => a r * (m r s * d s)) n) n := sr_eq fun r _ => by unfold rowm; rw [sr_mul]
  rw [l, sr_swap]
  exact sr_eq fun s hs => by
   unfold rowm; rw [← sr_mul]; exact sr_eq fun r hr => by rw [sym r s hr hs]; grind
 unfold quad
 have h : ∀ r, (a r + d r) * sr (fun s => m r s * (a s + d s)) n = (a r * rowm m n a r + d r * rowm m n d r) + (a r * rowm m n d r + d r * rowm m n a r) := fun r => by rw [e r]; grind
 rw [sr_eq fun r _ => h r, sr_add, sr_add, sr_add, sw]
 unfold rowm; grind
theorem dot_small {n : Nat} (b r : Nat → Rat) {e f : Rat} (he : 0 < e) (hf : e * f = 1) : 2 * sr (fun k => b k * r k) n ≤ e * nrm n b + f * nrm n r := by
 have h : ∀ k, k < n → 2 * (b k * r k) ≤ e * (b k * b k) + f * (r k * r k) := fun k _ => by
  have s := sq_nn (e * b k - r k)
  have q : e * (f * (r k * r k)) = r k * r k := by rw [← Rat.mul_assoc, hf, Rat.one_mul]
  have p : e * (2 * (b k * r k)) ≤ e * (e * (b k * b k) + f * (r k * r k)) := by grind
  exact Rat.le_of_mul_le_mul_left p he
 have s := sr_le h
 rw [sr_mul, sr_add, sr_mul, sr_mul] at s
 unfold nrm; exact s
theorem dot_small' {n : Nat} (b r : Nat → Rat) {e f : Rat} (he : 0 < e) (hf : e * f = 1) : -(e * nrm n b + f * nrm n r) ≤ 2 * sr (fun k => b k * r k) n := by
 have h := dot_small (n := n) (fun k => -b k) r he hf
 have e1 : sr (fun k => -b k * r k) n = -sr (fun k => b k * r k) n := by
  rw [show sr (fun k => -b k * r k) n = sr (fun k => (-1) * (b k * r k)) n from sr_eq fun k _ => by grind, sr_mul]; grind
 have e2 : nrm n (fun k => -b k) = nrm n b := by unfold nrm; exact sr_eq fun k _ => by grind
 rw [e1, e2] at h
 grind
theorem sr_nine (f : Nat → Rat) : sr f 9 = sr f 3 + sr (fun k => f (k + 3)) 6 := by simp only [sr]; grind
def b6 (b1 b2 : R3) : Nat → Rat := fun k => if k = 0 then b1.x else if k = 1 then b1.y else if k = 2 then b1.z else if k = 3 then b2.x else if k = 4 then b2.y else b2.z
theorem nrm_b6 (b1 b2 : R3) : nrm 6 (b6 b1 b2) = dt b1 b1 + dt b2 b2 := by unfold nrm; simp only [sr, b6, dt]; simp; grind
theorem w9_b6 (a b1 b2 : R3) : ∀ k, k < 6 → w9 a b1 b2 (k + 3) = -b6 b1 b2 k := fun k hk => by
 have : k = 0 ∨ k = 1 ∨ k = 2 ∨ k = 3 ∨ k = 4 ∨ k = 5 := by omega
 rcases this with rfl | rfl | rfl | rfl | rfl | rfl <;> simp [w9, b6]
theorem quad_solved {m : Nat → Nat → Rat} {a b1 b2 : R3} {r : Nat → Rat} (hr : ∀ j, j < 6 → rowm m 9 (w9 a b1 b2) (j + 3) = -r j) : quad m 9 (w9 a b1 b2) = sr (fun i => w9 a b1 b2 i * rowm m 9 (w9 a b1 b2) i) 3 + sr (fun j => b6 b1 b2 j * r j) 6 := by
 unfold quad
 rw [sr_nine]
 have : sr (fun k => w9 a b1 b2 (k + 3) * sr (fun s => m (k + 3) s * w9 a b1 b2 s) 9) 6 = sr (fun j => b6 b1 b2 j * r j) 6 := sr_eq fun j hj => by
  have h := hr j hj
  unfold rowm at h
  rw [h, w9_b6 a b1 b2 j hj]; grind
 rw [this]; rfl
theorem w9_add (a b1 b2 c1 c2 : R3) (k : Nat) : w9 a c1 c2 k = w9 a b1 b2 k + w9 ⟨0, 0, 0⟩ (sb3 c1 b1) (sb3 c2 b2) k := by
 have h : k = 0 ∨ k = 1 ∨ k = 2 ∨ k = 3 ∨ k = 4 ∨ k = 5 ∨ k = 6 ∨ k = 7 ∨ 8 ≤ k := by omega
 rcases h with rfl | rfl | rfl | rfl | rfl | rfl | rfl | rfl | h
 ·show a.x = a.x + 0; grind
 ·show a.y = a.y + 0; grind
 ·show a.z = a.z + 0; grind
 ·show -c1.x = -b1.x + -(c1.x - b1.x); grind
 ·show -c1.y = -b1.y + -(c1.y - b1.y); grind
 ·show -c1.z = -b1.z + -(c1.z - b1.z); grind
 ·show -c2.x = -b2.x + -(c2.x - b2.x); grind
 ·show -c2.y = -b2.y + -(c2.y - b2.y); grind
 ·have e : ∀ x y z : R3, w9 x y z k = -z.z := fun x y z => by
   unfold w9
   rw [if_neg (by omega), if_neg (by omega), if_neg (by omega), if_neg (by omega), if_neg (by omega), if_neg (by omega), if_neg (by omega), if_neg (by omega)]
  rw [e, e, e]; show -c2.z = -b2.z + -(c2.z - b2.z); grind
theorem quad_least {m : Nat → Nat → Rat} {a b1 b2 c1 c2 : R3} {r : Nat → Rat} (sym : ∀ r s, r < 9 → s < 9 → m r s = m s r) (hr : ∀ j, j < 6 → rowm m 9 (w9 a b1 b2) (j + 3) = -r j) (pos : 0 ≤ quad m 9 (w9 ⟨0, 0, 0⟩ (sb3 c1 b1) (sb3 c2 b2))) {e f : Rat} (he : 0 < e) (hf : e * f = 1) :
  quad m 9 (w9 a b1 b2) ≤ quad m 9 (w9 a c1 c2) + (e * (dt (sb3 c1 b1) (sb3 c1 b1) + dt (sb3 c2 b2) (sb3 c2 b2)) + f * nrm 6 r) := by
 have e1 : w9 a c1 c2 = fun k => w9 a b1 b2 k + w9 ⟨0, 0, 0⟩ (sb3 c1 b1) (sb3 c2 b2) k := by
  funext k; exact w9_add a b1 b2 c1 c2 k
 have q := quad_two sym (w9 a b1 b2) (w9 ⟨0, 0, 0⟩ (sb3 c1 b1) (sb3 c2 b2))
 rw [← e1] at q
 have d : sr (fun k => w9 ⟨0, 0, 0⟩ (sb3 c1 b1) (sb3 c2 b2) k * rowm m 9 (w9 a b1 b2) k) 9 = sr (fun j => b6 (sb3 c1 b1) (sb3 c2 b2) j * r j) 6 := by
  rw [sr_nine]
  have z : sr (fun k => w9 ⟨0, 0, 0⟩ (sb3 c1 b1) (sb3 c2 b2) k * rowm m 9 (w9 a b1 b2) k) 3 = 0 := by simp only [sr, w9]; simp; grind
  rw [z]
  have : sr (fun k => w9 ⟨0, 0, 0⟩ (sb3 c1 b1) (sb3 c2 b2) (k + 3) * rowm m 9 (w9 a b1 b2) (k + 3)) 6 = sr (fun j => b6 (sb3 c1 b1) (sb3 c2 b2) j * r j) 6 := sr_eq fun j hj => by rw [hr j hj, w9_b6 _ _ _ j hj]; grind
  rw [this]; grind
 rw [d] at q
 have s := dot_small' (n := 6) (b6 (sb3 c1 b1) (sb3 c2 b2)) r he hf
 rw [nrm_b6] at s
 grind
end Go.Proofs.Ytooehgijllihdaa.Ff
namespace Go.Proofs.Ytooehgijllihdaa.Ff
open Go.RowKit
theorem sum_near {f g : Nat → Rat} {e : Rat} : ∀ {n : Nat}, (∀ k, k < n → Nr (f k) (g k) e) → Nr (sr f n) (sr g n) (n * e)
 | 0, _ => ⟨by show (0 : Rat) - 0 ≤ _; push_cast; grind, by show _ ≤ (0 : Rat) - 0; push_cast; grind⟩
 | n + 1, h => by
  have a := (sum_near (n := n) fun k hk => h k (by omega)).add (h n (by omega))
  refine ⟨?_, ?_⟩
  ·have := a.hi; simp only [sr]; push_cast; grind
  ·have := a.lo; simp only [sr]; push_cast; grind
theorem solve_res {m : Nat → Int} {b x y : Nat → Int} {L : Nat → Nat → Int} {lam X : Rat} (H : PD (mt m) lam) (W : Wh (mt m) L)
  (h1 : ∀ i, i < 6 → sr (fun k => lq L i k * qr (y k)) 6 - qr (b i) ≤ 3 / 1099511627776 ∧ -(3 / 1099511627776) ≤ sr (fun k => lq L i k * qr (y k)) 6 - qr (b i))
  (h2 : ∀ i, i < 6 → col L (fun k => qr (x k)) i - qr (y i) ≤ 3 / 1099511627776 ∧ -(3 / 1099511627776) ≤ col L (fun k => qr (x k)) i - qr (y i))
  (hX : ∀ k, k < 6 → qr (x k) ≤ X ∧ -X ≤ qr (x k)) {j : Nat} (hj : j < 6) : Nr (rowm (fun r s => qr (mt m r s)) 6 (fun k => qr (x k)) j) (qr (b j)) ((21 + 42 * X) / 1099511627776) := by
 have e : rowm (fun r s => qr (mt m r s)) 6 (fun k => qr (x k)) j = sr (fun k => qr (x k) * res (mt m) L 6 j k) 6 + sr (fun t => lq L j t * col L (fun k => qr (x k)) t) 6 := by
  have sw : sr (fun t => lq L j t * col L (fun k => qr (x k)) t) 6 = sr (fun k => sr (fun t => lq L j t * (lq L k t * qr (x k))) 6) 6 := by
   rw [sr_swap]
   exact sr_eq fun t _ => by unfold col; rw [← sr_mul]
  rw [sw, ← sr_add]
  unfold rowm
  exact sr_eq fun k _ => by
   have : sr (fun t => lq L j t * (lq L k t * qr (x k))) 6 = qr (x k) * sr (fun t => qr (L j t) * qr (L k t)) 6 := by
    rw [← sr_mul]; exact sr_eq fun t _ => by unfold lq; grind
   rw [this]; unfold res; grind
 rw [e]
 have X0 : 0 ≤ X := by have := hX 0 (by omega); grind
 have n1 : Nr (sr (fun k => qr (x k) * res (mt m) L 6 j k) 6) (sr (fun _ => 0) 6) (6 * (X * e7)) := by
  have := sum_near (n := 6) (f := fun k => qr (x k) * res (mt m) L 6 j k) (g := fun k => qr (x k) * 0) (e := X * e7) (fun k hk => by
   have r := rest_small H W hj hk
   exact (Nr.scale (x := res (mt m) L 6 j k) (y := 0) (e := e7) ⟨by grind, by grind⟩ (hX k hk).1 (hX k hk).2))
  have z : sr (fun k => qr (x k) * 0) 6 = sr (fun _ => (0 : Rat)) 6 := sr_eq fun k _ => by grind
  rw [z] at this
  push_cast at this
  exact this
 have n2 : Nr (sr (fun t => lq L j t * col L (fun k => qr (x k)) t) 6) (sr (fun t => lq L j t * qr (y t)) 6) (6 * (1 * (3 / 1099511627776))) := by
  have := sum_near (n := 6) (f := fun t => lq L j t * col L (fun k => qr (x k)) t) (g := fun t => lq L j t * qr (y t)) (e := 1 * (3 / 1099511627776)) (fun t ht => by
   have u := ab_one' (W.ub j t)
   exact (⟨(h2 t ht).1, (h2 t ht).2⟩ : Nr _ _ _).scale u.1 u.2)
  push_cast at this
  exact this
 have n3 : Nr (sr (fun t => lq L j t * qr (y t)) 6) (qr (b j)) (3 / 1099511627776) := ⟨(h1 j hj).1, (h1 j hj).2⟩
 have tot := n1.add (n2.trans n3)
 have z : sr (fun _ => (0 : Rat)) 6 = 0 := sr_zero fun _ _ => rfl
 rw [z] at tot
 have e7v : e7 = 7 / 1099511627776 := rfl
 have t1 := tot.hi; have t2 := tot.lo
 rw [e7v] at t1 t2
 constructor <;> grind
end Go.Proofs.Ytooehgijllihdaa.Ff
namespace Go.Proofs.Ytooehgijllihdaa.Ff
open Go.RowKit
theorem mul_T {x : Int} (h : Ab x 1099511627776) : mulS false x 1099511627776 = (x, false) := by
 have := times_near (k := 1) h (by decide) (⟨by decide, by decide⟩ : Ab (1099511627776 * 1) 1099511627776) (by decide)
 rw [Int.mul_one, Int.one_mul] at this; exact this
theorem T_mul {x : Int} (h : Ab x 1099511627776) : mulS false 1099511627776 x = (x, false) := by rw [mulS_comm]; exact mul_T h
theorem mul_Z {x : Int} (h : Ab x 1099511627776) : mulS false x 0 = (0, false) := mul_zero_is h
theorem Z_mul {x : Int} (h : Ab x 1099511627776) : mulS false 0 x = (0, false) := by rw [mulS_comm]; exact mul_zero_is h
theorem add_Z {x : Int} (h : Ab x 1099511627776) : addS false 0 x = (x, false) := by
 have := add_near (⟨by decide, by decide⟩ : Ab 0 0) h (by decide) (by decide) (by decide)
 rw [Int.zero_add] at this; exact this
theorem add_Z' {x : Int} (h : Ab x 1099511627776) : addS false x 0 = (x, false) := by
 have := add_near h (⟨by decide, by decide⟩ : Ab 0 0) (by decide) (by decide) (by decide)
 rw [Int.add_zero] at this; exact this
theorem sub_Z' {x : Int} (h : Ab x 1099511627776) : subS false x 0 = (x, false) := by
 have := sub_near h (⟨by decide, by decide⟩ : Ab 0 0) (by decide) (by decide) (by decide)
 rw [Int.sub_zero] at this; exact this
theorem z_ab : Ab 0 1099511627776 := ⟨by decide, by decide⟩
theorem att_none {b0 b1 b2 t : Int} (V : U4 b0 b1 b2 t) : qMulS false (0, 0, 0, 1099511627776) (b0, b1, b2, t) = ((b0, b1, b2, t), false) := by
 unfold qMulS vScaleS vAddS vCrossS vDotS
 simp only [Z_mul V.a3, mul_T V.a0, mul_T V.a1, mul_T V.a2, soundS_no, add_Z V.a0, add_Z V.a1, add_Z V.a2, mul_Z V.a0, mul_Z V.a1, mul_Z V.a2, sub_Z' z_ab, add_Z' V.a0, add_Z' V.a1, add_Z' V.a2, T_mul V.a3, Z_mul V.a0, Z_mul V.a1, Z_mul V.a2, add_Z z_ab, sub_Z' V.a3, sound4S_no]
theorem rod_none : qFromRodS false (0, 0, 0) = ((0, 0, 0, 1099511627776), false) := by decide +kernel
def ptn (l : Nat → Int) (i k : Nat) : Int := (mulS false 2909034330719 (l (i * 6 + k))).1
theorem pts_l1 {r : (Nat → Int) × Bool} (good : ∀ i k, (mulS false 2909034330719 (r.1 (i * 6 + k))).2 = false) (k : Nat) (hk : k < 6) {z : (Nat → Int) × Bool} (hz : z.2 = false) : ∀ n, n ≤ 6 → (hPointsS_l1 r (2909034330719, false) k z n).2 = false ∧
  (∀ i, i < n → (hPointsS_l1 r (2909034330719, false) k z n).1 ((1 + k) * 6 + i) = ptn r.1 i k ∧ (hPointsS_l1 r (2909034330719, false) k z n).1 ((7 + k) * 6 + i) = -ptn r.1 i k) ∧
  (∀ e, (∀ i, i < n → e ≠ (1 + k) * 6 + i ∧ e ≠ (7 + k) * 6 + i) → (hPointsS_l1 r (2909034330719, false) k z n).1 e = z.1 e)
 | 0, _ => ⟨hz, fun i hi => by omega, fun e _ => rfl⟩
 | n + 1, hn => by
  obtain ⟨e, v, o⟩ := pts_l1 good k hk hz n (by omega)
  rw [hPointsS_l1_succ]
  unfold hPointsS_l1s
  dsimp only
  rw [e]
  refine ⟨good n k, fun i hi => ?_, fun e' he => ?_⟩
  ·by_cases c : i = n
   ·subst c
    refine ⟨?_, ?_⟩
    ·rw [updF_off _ _ (by omega), updF_at]; rfl
    ·rw [updF_at]; rfl
   ·refine ⟨?_, ?_⟩
    ·rw [updF_off _ _ (by omega), updF_off _ _ (by omega)]; exact (v i (by omega)).1
    ·rw [updF_off _ _ (by omega), updF_off _ _ (by omega)]; exact (v i (by omega)).2
  ·have h := he n (by omega)
   rw [updF_off _ _ h.2, updF_off _ _ h.1]
   exact o e' (fun i hi => he i (by omega))
theorem pts_l0 {r : (Nat → Int) × Bool} (good : ∀ i k, (mulS false 2909034330719 (r.1 (i * 6 + k))).2 = false) : ∀ n, n ≤ 6 → (hPointsS_l0 r (2909034330719, false) ((fun _ => 0), false) n).2 = false ∧
  (∀ k, k < n → ∀ i, i < 6 → (hPointsS_l0 r (2909034330719, false) ((fun _ => 0), false) n).1 ((1 + k) * 6 + i) = ptn r.1 i k ∧ (hPointsS_l0 r (2909034330719, false) ((fun _ => 0), false) n).1 ((7 + k) * 6 + i) = -ptn r.1 i k) ∧
  (∀ i, i < 6 → (hPointsS_l0 r (2909034330719, false) ((fun _ => 0), false) n).1 i = 0)
 | 0, _ => ⟨rfl, fun k hk => by omega, fun _ _ => rfl⟩
 | n + 1, hn => by
  obtain ⟨e, v, o⟩ := pts_l0 good n (by omega)
  obtain ⟨e1, v1, o1⟩ := pts_l1 good n (by omega) (z := ((hPointsS_l0 r (2909034330719, false) ((fun _ => 0), false) n).1, (hPointsS_l0 r (2909034330719, false) ((fun _ => 0), false) n).2)) e 6 (Nat.le_refl 6)
  rw [hPointsS_l0_succ]
  unfold hPointsS_l0s
  dsimp only
  refine ⟨e1, fun k hk i hi => ?_, fun i hi => ?_⟩
  ·by_cases c : k = n
   ·subst c; exact v1 i hi
   ·rw [o1 _ (fun i' hi' => ⟨by omega, by omega⟩), o1 _ (fun i' hi' => ⟨by omega, by omega⟩)]
    exact v k (by omega) i hi
  ·rw [o1 _ (fun i' hi' => ⟨by omega, by omega⟩)]
   exact o i hi
theorem points_are {g l : Nat → Int} (hl : zRoot6 false (fun x_ => g (7 + x_)) = (l, false)) (small : ∀ e, Low (l e)) : ∃ x, hPointsS false g = (x, false) ∧ (∀ i, i < 6 → x i = 0) ∧ ∀ k, k < 6 → ∀ i, i < 6 → x ((1 + k) * 6 + i) = ptn l i k ∧ x ((7 + k) * 6 + i) = -ptn l i k := by
 obtain ⟨e, v, o⟩ := pts_l0 (r := (l, false)) (fun i k => mul_c (small _)) 6 (Nat.le_refl 6)
 refine ⟨(hPointsS_l0 (l, false) (2909034330719, false) ((fun _ => 0), false) 6).1, ?_, o, v⟩
 unfold hPointsS
 dsimp only
 rw [hl]
 dsimp only
 rw [c_is]
 dsimp only
 rw [e]
theorem seen_by {g x : Nat → Int} {k : Nat} {s t : V3} {f : V4} {c : V4} {z w : V3} (ef : qFromRodS false (x (k * 6), x (k * 6 + 1), x (k * 6 + 2)) = (f, false)) (ec : qMulS false f (g 0, g 1, g 2, g 3) = (c, false)) (ez : qTurnS false c s = (z, false)) (ew : qTurnS false c t = (w, false)) :
  ViewG g x s t k ∧ (wS false (fattitudeS false g (rowK x k)).1 s t).1 = (z, w) := by
 have ea : fattitudeS false g (rowK x k) = (c, false) := by
  unfold fattitudeS ffirstP rowK
  dsimp only
  rw [show k * 6 + 0 = k * 6 from rfl, ef]
  dsimp only
  rw [ec]
 have ew2 : wS false c s t = ((z, w), false) := by
  unfold wS
  dsimp only
  rw [ez]
  dsimp only
  rw [ew]
 exact ⟨⟨by rw [ea], by rw [ea, ew2]⟩, by rw [ea, ew2]⟩
end Go.Proofs.Ytooehgijllihdaa.Ff
namespace Go.Proofs.Ytooehgijllihdaa.Ff
open Go.RowKit
def fA (g : Nat → Int) (a : R3) : Rat :=
 a.x * (qr (g 7) * a.x + qr (g 8) * a.y + qr (g 9) * a.z) + a.y * (qr (g 13) * a.x + qr (g 14) * a.y + qr (g 15) * a.z) + a.z * (qr (g 19) * a.x + qr (g 20) * a.y + qr (g 21) * a.z)
structure St (g : Nat → Int) (up lo : Rat) : Prop where
 q : U4 (g 0) (g 1) (g 2) (g 3)
 b4 : g 4 = 0
 b5 : g 5 = 0
 b6 : g 6 = 0
 sym : g 13 = g 8 ∧ g 19 = g 9 ∧ g 20 = g 15
 cross : ∀ i j, i < 6 → j < 6 → ((i < 3 ∧ 3 ≤ j) ∨ (3 ≤ i ∧ j < 3) ∨ (3 ≤ i ∧ 3 ≤ j ∧ i ≠ j)) → g (7 + (i * 6 + j)) = 0
 diag : ∀ i, 3 ≤ i → i < 6 → g (7 + (i * 6 + i)) = 16777216
 up : ∀ a, fA g a ≤ up * dt a a
 lo : ∀ a, lo * dt a a ≤ fA g a
theorem St.place {g : Nat → Int} {up lo : Rat} (H : St g up lo) (l0 : 0 ≤ lo) :
  (qr (g 7) ≤ up ∧ 0 ≤ qr (g 7)) ∧ (qr (g 14) ≤ up ∧ 0 ≤ qr (g 14)) ∧ (qr (g 21) ≤ up ∧ 0 ≤ qr (g 21)) ∧ (qr (g 8) ≤ up ∧ -up ≤ qr (g 8)) ∧ (qr (g 9) ≤ up ∧ -up ≤ qr (g 9)) ∧ (qr (g 15) ≤ up ∧ -up ≤ qr (g 15)) := by
 obtain ⟨s1, s2, s3⟩ := H.sym
 have u := H.up; have l := H.lo
 have ux := u ⟨1, 0, 0⟩; have uy := u ⟨0, 1, 0⟩; have uz := u ⟨0, 0, 1⟩
 have lx := l ⟨1, 0, 0⟩; have ly := l ⟨0, 1, 0⟩; have lz := l ⟨0, 0, 1⟩
 have p1 := u ⟨1, 1, 0⟩; have p2 := u ⟨1, -1, 0⟩; have p3 := u ⟨1, 0, 1⟩; have p4 := u ⟨1, 0, -1⟩; have p5 := u ⟨0, 1, 1⟩; have p6 := u ⟨0, 1, -1⟩
 unfold fA at *
 rw [s1, s2, s3] at *
 simp only [dt] at *
 refine ⟨⟨?_, ?_⟩, ⟨?_, ?_⟩, ⟨?_, ?_⟩, ⟨?_, ?_⟩, ⟨?_, ?_⟩, ⟨?_, ?_⟩⟩ <;> grind
theorem ab_up {x : Int} {up : Rat} (h1 : qr x ≤ up) (h2 : -up ≤ qr x) (hu : up ≤ 1 / 4) : Ab x 274877906944 := by
 have e : qr x = (x : Rat) / 1099511627776 := rfl
 have a1 : ((x : Int) : Rat) ≤ ((274877906944 : Int) : Rat) := by push_cast; grind
 have a2 : ((-274877906944 : Int) : Rat) ≤ ((x : Int) : Rat) := by push_cast; grind
 exact ⟨Rat.intCast_le_intCast.1 a2, Rat.intCast_le_intCast.1 a1⟩
theorem St.quad {g : Nat → Int} {up lo : Rat} (H : St g up lo) (a : Nat → Rat) : Ff.quad (fun r s => qr (mt (fun x_ => g (7 + x_)) r s)) 6 a = fA g ⟨a 0, a 1, a 2⟩ + 16777216 / 1099511627776 * (a 3 * a 3 + a 4 * a 4 + a 5 * a 5) := by
 have c := H.cross; have d := H.diag
 have c03 := c 0 3 (by omega) (by omega) (by omega); have c04 := c 0 4 (by omega) (by omega) (by omega); have c05 := c 0 5 (by omega) (by omega) (by omega)
 have c13 := c 1 3 (by omega) (by omega) (by omega); have c14 := c 1 4 (by omega) (by omega) (by omega); have c15 := c 1 5 (by omega) (by omega) (by omega)
 have c23 := c 2 3 (by omega) (by omega) (by omega); have c24 := c 2 4 (by omega) (by omega) (by omega); have c25 := c 2 5 (by omega) (by omega) (by omega)
 have c30 := c 3 0 (by omega) (by omega) (by omega); have c31 := c 3 1 (by omega) (by omega) (by omega); have c32 := c 3 2 (by omega) (by omega) (by omega)
 have c40 := c 4 0 (by omega) (by omega) (by omega); have c41 := c 4 1 (by omega) (by omega) (by omega); have c42 := c 4 2 (by omega) (by omega) (by omega)
 have c50 := c 5 0 (by omega) (by omega) (by omega); have c51 := c 5 1 (by omega) (by omega) (by omega); have c52 := c 5 2 (by omega) (by omega) (by omega)
 have c34 := c 3 4 (by omega) (by omega) (by omega); have c35 := c 3 5 (by omega) (by omega) (by omega); have c45 := c 4 5 (by omega) (by omega) (by omega)
 have c43 := c 4 3 (by omega) (by omega) (by omega); have c53 := c 5 3 (by omega) (by omega) (by omega); have c54 := c 5 4 (by omega) (by omega) (by omega)
 have d3 := d 3 (by omega) (by omega); have d4 := d 4 (by omega) (by omega); have d5 := d 5 (by omega) (by omega)
 have q16 : qr 16777216 = 16777216 / 1099511627776 := by unfold qr; push_cast; rfl
 simp only [Ff.quad, sr, mt, c03, c04, c05, c13, c14, c15, c23, c24, c25, c30, c31, c32, c40, c41, c42, c50, c51, c52, c34, c35, c45, c43, c53, c54, d3, d4, d5, qr_zero', q16]
 simp only [Nat.zero_mul, Nat.one_mul, Nat.add_zero, Nat.zero_add, Nat.reduceMul, Nat.reduceAdd]
 unfold fA
 grind
theorem St.pd {g : Nat → Int} {up lo : Rat} (H : St g up lo) (hu : up ≤ 1 / 50) (hl : 12000000 / 1099511627776 ≤ lo) : PD (mt (fun x_ => g (7 + x_))) (12000000 / 1099511627776) := by
 have pl := H.place (by grind)
 obtain ⟨⟨a1, a2⟩, ⟨b1, b2⟩, ⟨c1, c2⟩, ⟨d1, d2⟩, ⟨e1, e2⟩, f1, f2⟩ := pl
 obtain ⟨s1, s2, s3⟩ := H.sym
 have u4 : up ≤ 1 / 4 := by grind
 have k7 := ab_up a1 (by grind) u4; have k14 := ab_up b1 (by grind) u4; have k21 := ab_up c1 (by grind) u4
 have k8 := ab_up d1 d2 u4; have k9 := ab_up e1 e2 u4; have k15 := ab_up f1 f2 u4
 refine ⟨fun a b ha hb => ?_, fun a b ha hb => ?_, fun a => ?_, by grind⟩
 ·show Ab (g (7 + (a * 6 + b))) _
  by_cases c : (a < 3 ∧ 3 ≤ b) ∨ (3 ≤ a ∧ b < 3) ∨ (3 ≤ a ∧ 3 ≤ b ∧ a ≠ b)
  ·rw [H.cross a b ha hb c]; exact ⟨by decide, by decide⟩
  ·by_cases c2 : 3 ≤ a
   ·obtain rfl : a = b := by omega
    rw [H.diag a c2 ha]; exact ⟨by decide, by decide⟩
   ·have ha' : a = 0 ∨ a = 1 ∨ a = 2 := by omega
    have hb' : b = 0 ∨ b = 1 ∨ b = 2 := by omega
    rcases ha' with rfl | rfl | rfl <;> rcases hb' with rfl | rfl | rfl
    ·exact k7
    ·exact k8
    ·exact k9
    ·show Ab (g 13) _; rw [s1]; exact k8
    ·exact k14
    ·exact k15
    ·show Ab (g 19) _; rw [s2]; exact k9
    ·show Ab (g 20) _; rw [s3]; exact k15
    ·exact k21
 ·show g (7 + (a * 6 + b)) = g (7 + (b * 6 + a))
  by_cases c : (a < 3 ∧ 3 ≤ b) ∨ (3 ≤ a ∧ b < 3) ∨ (3 ≤ a ∧ 3 ≤ b ∧ a ≠ b)
  ·rw [H.cross a b ha hb c, H.cross b a hb ha (by omega)]
  ·by_cases c2 : 3 ≤ a
   ·obtain rfl : a = b := by omega
    rfl
   ·have ha' : a = 0 ∨ a = 1 ∨ a = 2 := by omega
    have hb' : b = 0 ∨ b = 1 ∨ b = 2 := by omega
    rcases ha' with rfl | rfl | rfl <;> rcases hb' with rfl | rfl | rfl
    ·rfl
    ·exact s1.symm
    ·exact s2.symm
    ·exact s1
    ·rfl
    ·exact s3.symm
    ·exact s2
    ·exact s3
    ·rfl
 ·rw [H.quad a]
  have l := H.lo ⟨a 0, a 1, a 2⟩
  have n3 : 0 ≤ a 3 * a 3 + a 4 * a 4 + a 5 * a 5 := by have := sq_nn (a 3); have := sq_nn (a 4); have := sq_nn (a 5); grind
  have n0 := dt_nn ⟨a 0, a 1, a 2⟩
  have m := mul_le_l hl n0
  have e : nrm 6 a = dt ⟨a 0, a 1, a 2⟩ ⟨a 0, a 1, a 2⟩ + (a 3 * a 3 + a 4 * a 4 + a 5 * a 5) := by unfold nrm; simp only [sr, dt]; grind
  rw [e]
  generalize dt (⟨a 0, a 1, a 2⟩ : R3) ⟨a 0, a 1, a 2⟩ = D at *
  grind
end Go.Proofs.Ytooehgijllihdaa.Ff
namespace Go.Proofs.Ytooehgijllihdaa.Ff
open Go.RowKit
structure Pts (g x : Nat → Int) : Prop where
 z0 : ∀ i, i < 6 → x i = 0
 opp : ∀ k, k < 6 → ∀ i, i < 6 → x ((7 + k) * 6 + i) = -x ((1 + k) * 6 + i)
 tz : ∀ k, 3 ≤ k → k < 6 → ∀ i, i < 3 → x ((1 + k) * 6 + i) = 0
 bz : ∀ k, k < 3 → ∀ i, 3 ≤ i → i < 6 → x ((1 + k) * 6 + i) = 0
 ab : ∀ k, k < 13 → ∀ i, i < 6 → Ab (x (k * 6 + i)) 1099511627776
 near : ∀ i l, i < 3 → l < 3 → Nr (qr (g (7 + (i * 6 + l)))) (sum13 (fun k => qr (x (k * 6 + i)) * qr (x (k * 6 + l))) / 14) (9 / 1099511627776)
theorem left_none {m L : Nat → Nat → Int} (W : Wh m L) (hz : ∀ i k, 3 ≤ i → i < 6 → k < 3 → m i k = 0) : ∀ k, k < 3 → ∀ i, 3 ≤ i → i < 6 → L i k = 0 := by
 have one : ∀ k, k < 3 → ∀ i, 3 ≤ i → i < 6 → (∀ t, t < k → L i t = 0) → L i k = 0 := fun k hk i h3 h6 ih => by
  have P := (W.rows k (by omega)).1.root
  have F := (W.rows i h6).2 k (by omega)
  have am : Am m L k i k = 0 := by
   unfold Am
   rw [hz i k h3 h6 hk, sm_zero fun t ht => ?_]
   ·rfl
   ·unfold pr; rw [ih t ht]
    rw [Z_mul (W.ub k t)]
  have R := F.R
  rw [am] at R
  have r1 := R.lo; have r2 := R.hi
  rw [Int.zero_mul, Int.sub_zero] at r1 r2
  apply Classical.byContradiction; intro c
  rcases (show L i k ≤ -1 ∨ 1 ≤ L i k by omega) with h | h
  ·have := Int.mul_le_mul_of_nonneg_right h (show 0 ≤ L k k by omega); omega
  ·have := Int.mul_le_mul_of_nonneg_right h (show 0 ≤ L k k by omega); omega
 intro k hk i h3 h6
 have k0 : ∀ i, 3 ≤ i → i < 6 → L i 0 = 0 := fun i a b => one 0 (by omega) i a b (fun t ht => by omega)
 have k1 : ∀ i, 3 ≤ i → i < 6 → L i 1 = 0 := fun i a b => one 1 (by omega) i a b (fun t ht => by rw [show t = 0 by omega]; exact k0 i a b)
 have k2 : ∀ i, 3 ≤ i → i < 6 → L i 2 = 0 := fun i a b => one 2 (by omega) i a b (fun t ht => by
  rcases (show t = 0 ∨ t = 1 by omega) with rfl | rfl
  ·exact k0 i a b
  ·exact k1 i a b)
 rcases (show k = 0 ∨ k = 1 ∨ k = 2 by omega) with rfl | rfl | rfl
 ·exact k0 i h3 h6
 ·exact k1 i h3 h6
 ·exact k2 i h3 h6
theorem St.points {g : Nat → Int} {up lo : Rat} (H : St g up lo) (hu : up ≤ 1 / 50) (hl : 12000000 / 1099511627776 ≤ lo) : ∃ x, hPointsS false g = (x, false) ∧ Pts g x := by
 have D := H.pd hu hl
 obtain ⟨l, L, er, R, W⟩ := pd_root D
 have ez : zRoot6 false (fun x_ => g (7 + x_)) = (l, false) := by rw [← mRoot6_eq]; exact er
 have low : ∀ e, Low (l e) := fun e => by
  have h := zroot_low (b := false) (m := fun x_ => g (7 + x_)) (by rw [ez]) e
  rw [ez] at h; exact h
 obtain ⟨x, ex, x0, xv⟩ := points_are ez low
 have lL : ∀ i k, i < 6 → k < 6 → l (i * 6 + k) = L i k := fun i k _ hk => R i k hk
 -- how great the root's numbers are
 have Lsq : ∀ i k, i < 6 → k < 6 → qr (L i k) * qr (L i k) ≤ 9 / 400 := fun i k hi hk => by
  have rs := rest_small D W hi hi
  have sq : qr (L i k) * qr (L i k) ≤ sr (fun t => qr (L i t) * qr (L i t)) 6 := sr_term (f := fun t => qr (L i t) * qr (L i t)) (fun t _ => sq_nn _) hk
  have mb : qr (mt (fun x_ => g (7 + x_)) i i) ≤ 1 / 50 := by
   show qr (g (7 + (i * 6 + i))) ≤ _
   by_cases c : 3 ≤ i
   ·rw [H.diag i c hi]
    have e : qr 16777216 = 16777216 / 1099511627776 := by unfold qr; push_cast; rfl
    rw [e]; grind
   ·have pl := H.place (by grind)
    rcases (show i = 0 ∨ i = 1 ∨ i = 2 by omega) with rfl | rfl | rfl
    ·exact Rat.le_trans pl.1.1 hu
    ·exact Rat.le_trans pl.2.1.1 hu
    ·exact Rat.le_trans pl.2.2.1.1 hu
  have e7v : e7 = 7 / 1099511627776 := rfl
  have r2 := rs.2
  rw [e7v] at r2
  unfold res at r2
  grind
 have Lab : ∀ i k, i < 6 → k < 6 → qr (L i k) ≤ 3 / 20 ∧ -(3 / 20) ≤ qr (L i k) := fun i k hi hk => ab_of_sq (by grind) (by have := Lsq i k hi hk; grind)
 have cA : Ab 2909034330719 1125899906842624 := ⟨by decide, by decide⟩
 have cq : qr 2909034330719 = 2909034330719 / 1099511627776 := by unfold qr; push_cast; rfl
 have pn : ∀ i k, i < 6 → k < 6 → Nr (qr (ptn l i k)) (2909034330719 / 1099511627776 * qr (L i k)) (1 / 2199023255552) := fun i k hi hk => by
  unfold ptn
  rw [lL i k hi hk]
  obtain ⟨m, em, rm⟩ := mul_near cA (W.ub i k) (by decide) (by decide)
  rw [em]
  have := mul_qn rm
  rw [cq] at this; exact this
 have pb : ∀ i k, i < 6 → k < 6 → qr (ptn l i k) ≤ 2 / 5 ∧ -(2 / 5) ≤ qr (ptn l i k) := fun i k hi hk => by
  have n := pn i k hi hk; have b := Lab i k hi hk
  have := n.hi; have := n.lo
  constructor <;> grind
 have pAb : ∀ i k, i < 6 → k < 6 → Ab (ptn l i k) 1099511627776 := fun i k hi hk => by
  have b := pb i k hi hk
  have e : qr (ptn l i k) = (ptn l i k : Rat) / 1099511627776 := rfl
  have a1 : ((ptn l i k : Int) : Rat) ≤ ((1099511627776 : Int) : Rat) := by push_cast; grind
  have a2 : ((-1099511627776 : Int) : Rat) ≤ ((ptn l i k : Int) : Rat) := by push_cast; grind
  exact ⟨Rat.intCast_le_intCast.1 a2, Rat.intCast_le_intCast.1 a1⟩
 have p0 : ∀ i k, i < 6 → k < 6 → L i k = 0 → ptn l i k = 0 := fun i k hi hk h => by
  unfold ptn
  rw [lL i k hi hk, h]
  decide
 have ln := left_none W (fun i k h3 h6 hk => H.cross i k h6 (by omega) (by omega))
 refine ⟨x, ex, x0, fun k hk i hi => ?_, fun k h3 hk i hi => ?_, fun k hk i h3 hi => ?_, fun k hk i hi => ?_, fun i j hi hj => ?_⟩
 ·rw [(xv k hk i hi).2, (xv k hk i hi).1]
 ·rw [(xv k hk i (by omega)).1]
  exact p0 i k (by omega) hk (W.zero i k (Or.inr (by omega)))
 ·rw [(xv k (by omega) i hi).1]
  exact p0 i k hi (by omega) (ln k hk i h3 hi)
 ·by_cases c : k = 0
  ·subst c
   rw [show 0 * 6 + i = i by omega, x0 i hi]; exact ⟨by decide, by decide⟩
  ·by_cases c2 : k < 7
   ·have := (xv (k - 1) (by omega) i hi).1
    rw [show 1 + (k - 1) = k by omega] at this
    rw [this]; exact pAb i (k - 1) hi (by omega)
   ·have := (xv (k - 7) (by omega) i hi).2
    rw [show 7 + (k - 7) = k by omega] at this
    rw [this]; exact (pAb i (k - 7) hi (by omega)).neg
 ·-- the mean of products
  have sm13 : sum13 (fun k => qr (x (k * 6 + i)) * qr (x (k * 6 + j))) / 14 = 1 / 7 * sr (fun k => qr (ptn l i k) * qr (ptn l j k)) 6 := by
   have r0 : ∀ i, i < 3 → x (0 * 6 + i) = 0 := fun i hi => by rw [show 0 * 6 + i = i by omega]; exact x0 i (by omega)
   have up := fun k (hk : k < 6) i (hi : i < 3) => (xv k hk i (by omega)).1
   have dn := fun k (hk : k < 6) i (hi : i < 3) => (xv k hk i (by omega)).2
   unfold sum13
   show (2 * (qr (x (0 * 6 + i)) * qr (x (0 * 6 + j))) + sr (fun t => qr (x ((t + 1) * 6 + i)) * qr (x ((t + 1) * 6 + j))) 12) / 14 = _
   rw [r0 i hi, r0 j hj]
   have s : sr (fun t => qr (x ((t + 1) * 6 + i)) * qr (x ((t + 1) * 6 + j))) 12 = sr (fun k => qr (ptn l i k) * qr (ptn l j k)) 6 + sr (fun k => qr (ptn l i k) * qr (ptn l j k)) 6 := by
    have e1 : ∀ k, k < 6 → qr (x ((k + 1) * 6 + i)) * qr (x ((k + 1) * 6 + j)) = qr (ptn l i k) * qr (ptn l j k) := fun k hk => by
     rw [show k + 1 = 1 + k by omega, up k hk i hi, up k hk j hj]
    have e2 : ∀ k, k < 6 → qr (x ((k + 6 + 1) * 6 + i)) * qr (x ((k + 6 + 1) * 6 + j)) = qr (ptn l i k) * qr (ptn l j k) := fun k hk => by
     rw [show k + 6 + 1 = 7 + k by omega, dn k hk i hi, dn k hk j hj, qr_neg, qr_neg]; grind
    have sp : ∀ f : Nat → Rat, sr f 12 = sr f 6 + sr (fun k => f (k + 6)) 6 := fun f => by simp only [sr]; grind
    rw [sp, sr_eq e1, sr_eq e2]
   rw [s, qr_zero']
   grind
  have tn : ∀ k, k < 6 → Nr (qr (ptn l i k) * qr (ptn l j k)) ((2909034330719 / 1099511627776 * (2909034330719 / 1099511627776)) * (qr (L i k) * qr (L j k))) (1 / 2199023255552) := fun k hk => by
   have a := pn i k (by omega) hk; have b := pn j k (by omega) hk
   have la := pb i k (by omega) hk; have lb := Lab j k (by omega) hk
   have m := a.mul b la.1 la.2 (d := 2 / 5) (by grind) (by grind)
   have := m.hi; have := m.lo
   constructor <;> grind
  have sn := sum_near (n := 6) tn
  rw [sr_mul] at sn
  have rs := rest_small D W (show i < 6 by omega) (show j < 6 by omega)
  have e7v : e7 = 7 / 1099511627776 := rfl
  rw [e7v] at rs
  unfold res at rs
  have mb : qr (mt (fun x_ => g (7 + x_)) i j) = qr (g (7 + (i * 6 + j))) := rfl
  rw [mb] at rs
  have lb : sr (fun t => qr (L i t) * qr (L j t)) 6 ≤ 1 ∧ -1 ≤ sr (fun t => qr (L i t) * qr (L j t)) 6 := by
   have n := sum_near (n := 6) (f := fun t => qr (L i t) * qr (L j t)) (g := fun _ => 0) (e := 9 / 400) (fun t ht => by
    have s1 := Lsq i t (by omega) ht; have s2 := Lsq j t (by omega) ht
    have d1 := sq_nn (qr (L i t) - qr (L j t)); have d2 := sq_nn (qr (L i t) + qr (L j t))
    constructor <;> grind)
   have z : sr (fun _ => (0 : Rat)) 6 = 0 := sr_zero fun _ _ => rfl
   rw [z] at n
   push_cast at n
   have := n.hi; have := n.lo
   constructor <;> grind
  rw [sm13]
  push_cast at sn
  generalize sr (fun t => qr (L i t) * qr (L j t)) 6 = Z at *
  generalize sr (fun k => qr (ptn l i k) * qr (ptn l j k)) 6 = Y at *
  have c7 : Nr (2909034330719 / 1099511627776 * (2909034330719 / 1099511627776)) 7 (7 / 1099511627776) := by constructor <;> decide +kernel
  have cz := c7.scale lb.1 lb.2
  have a1 := sn.hi; have a2 := sn.lo; have a3 := cz.hi; have a4 := cz.lo
  obtain ⟨r1, r2⟩ := rs
  constructor <;> grind
end Go.Proofs.Ytooehgijllihdaa.Ff
namespace Go.Proofs.Ytooehgijllihdaa.Ff
open Go.RowKit
def skyF : Nat → Int := six6 (1099511627776, 0, 0, 0, 1099511627776, 0)
def pv (x : Nat → Int) (k : Nat) : R3 := rv (x (k * 6)) (x (k * 6 + 1)) (x (k * 6 + 2))
def fst3 (f : Nat → Int) (k : Nat) : R3 := rv (f (k * 6)) (f (k * 6 + 1)) (f (k * 6 + 2))
def snd3 (f : Nat → Int) (k : Nat) : R3 := rv (f (k * 6 + 3)) (f (k * 6 + 4)) (f (k * 6 + 5))
def still (k : Nat) : Prop := k = 0 ∨ k = 4 ∨ k = 5 ∨ k = 6 ∨ k = 10 ∨ k = 11 ∨ k = 12
structure Vws (x vw : Nat → Int) (v1 v2 : R3) : Prop where
 dirs : Dirs v1 v2 (200 / 1099511627776)
 s1 : ∀ k, still k → fst3 vw k = v1 ∧ snd3 vw k = v2
 same : ∀ k, still k → ∀ j, j < 6 → vw (k * 6 + j) = vw j
 near : ∀ k, k < 13 → Nr3 (fst3 vw k) (hxv (pv x k) v1) (1500 / 1099511627776) ∧ Nr3 (snd3 vw k) (hxv (pv x k) v2) (1500 / 1099511627776)
theorem Pts.turn0 {g x : Nat → Int} (P : Pts g x) {k : Nat} (hk : still k) : x (k * 6) = 0 ∧ x (k * 6 + 1) = 0 ∧ x (k * 6 + 2) = 0 := by
 rcases hk with rfl | rfl | rfl | rfl | rfl | rfl | rfl
 ·exact ⟨P.z0 0 (by omega), P.z0 1 (by omega), P.z0 2 (by omega)⟩
 ·exact ⟨P.tz 3 (by omega) (by omega) 0 (by omega), P.tz 3 (by omega) (by omega) 1 (by omega), P.tz 3 (by omega) (by omega) 2 (by omega)⟩
 ·exact ⟨P.tz 4 (by omega) (by omega) 0 (by omega), P.tz 4 (by omega) (by omega) 1 (by omega), P.tz 4 (by omega) (by omega) 2 (by omega)⟩
 ·exact ⟨P.tz 5 (by omega) (by omega) 0 (by omega), P.tz 5 (by omega) (by omega) 1 (by omega), P.tz 5 (by omega) (by omega) 2 (by omega)⟩
 ·refine ⟨?_, ?_, ?_⟩
  ·have := P.opp 3 (by omega) 0 (by omega); rw [P.tz 3 (by omega) (by omega) 0 (by omega)] at this; exact this
  ·have := P.opp 3 (by omega) 1 (by omega); rw [P.tz 3 (by omega) (by omega) 1 (by omega)] at this; exact this
  ·have := P.opp 3 (by omega) 2 (by omega); rw [P.tz 3 (by omega) (by omega) 2 (by omega)] at this; exact this
 ·refine ⟨?_, ?_, ?_⟩
  ·have := P.opp 4 (by omega) 0 (by omega); rw [P.tz 4 (by omega) (by omega) 0 (by omega)] at this; exact this
  ·have := P.opp 4 (by omega) 1 (by omega); rw [P.tz 4 (by omega) (by omega) 1 (by omega)] at this; exact this
  ·have := P.opp 4 (by omega) 2 (by omega); rw [P.tz 4 (by omega) (by omega) 2 (by omega)] at this; exact this
 ·refine ⟨?_, ?_, ?_⟩
  ·have := P.opp 5 (by omega) 0 (by omega); rw [P.tz 5 (by omega) (by omega) 0 (by omega)] at this; exact this
  ·have := P.opp 5 (by omega) 1 (by omega); rw [P.tz 5 (by omega) (by omega) 1 (by omega)] at this; exact this
  ·have := P.opp 5 (by omega) 2 (by omega); rw [P.tz 5 (by omega) (by omega) 2 (by omega)] at this; exact this
theorem axis_ab : Ab 1099511627776 1099511627776 := ⟨by decide, by decide⟩
theorem views_are {g x : Nat → Int} (U : U4 (g 0) (g 1) (g 2) (g 3)) (P : Pts g x) : ∃ vw y0 y1 y2 w0 w1 w2, hviewedS false g x skyF = (vw, false) ∧ qTurnS false (g 0, g 1, g 2, g 3) (1099511627776, 0, 0) = ((y0, y1, y2), false) ∧ qTurnS false (g 0, g 1, g 2, g 3) (0, 1099511627776, 0) = ((w0, w1, w2), false) ∧
  Vws x vw (rv y0 y1 y2) (rv w0 w1 w2) := by
 obtain ⟨y0, y1, y2, w0, w1, w2, ey, ew, dr⟩ := axes_turned U
 have ly : dt (rv y0 y1 y2) (rv y0 y1 y2) ≤ 2 := by have := dr.a; have := dr.t1; grind
 have lw : dt (rv w0 w1 w2) (rv w0 w1 w2) ≤ 2 := by have := dr.b; have := dr.t1; grind
 have each : ∀ k, k < 13 → ∃ z w : V3, ViewG g x (sA skyF) (sB skyF) k ∧ (wS false (fattitudeS false g (rowK x k)).1 (sA skyF) (sB skyF)).1 = (z, w) ∧
   Nr3 (rv z.1 z.2.1 z.2.2) (hxv (pv x k) (rv y0 y1 y2)) (1500 / 1099511627776) ∧ Nr3 (rv w.1 w.2.1 w.2.2) (hxv (pv x k) (rv w0 w1 w2)) (1500 / 1099511627776) ∧ (still k → z = (y0, y1, y2) ∧ w = (w0, w1, w2)) := fun k hk => by
  have a0 := P.ab k hk 0 (by omega); have a1 := P.ab k hk 1 (by omega); have a2 := P.ab k hk 2 (by omega)
  obtain ⟨f0, f1, f2, f3, c0, c1, c2, c3, z0, z1, z2, ef, ec, ez, nz⟩ := view_near U a0 a1 a2 axis_ab z_ab z_ab ey ly
  obtain ⟨f0', f1', f2', f3', c0', c1', c2', c3', u0, u1, u2, ef', ec', eu, nu⟩ := view_near U a0 a1 a2 z_ab axis_ab z_ab ew lw
  rw [ef] at ef'
  simp only [Prod.mk.injEq, and_true] at ef'
  obtain ⟨rfl, rfl, rfl, rfl⟩ := ef'
  rw [ec] at ec'
  simp only [Prod.mk.injEq, and_true] at ec'
  obtain ⟨rfl, rfl, rfl, rfl⟩ := ec'
  obtain ⟨G, W⟩ := seen_by (g := g) (x := x) (k := k) (s := sA skyF) (t := sB skyF) ef ec ez eu
  refine ⟨(z0, z1, z2), (u0, u1, u2), G, W, nz, nu, fun hs => ?_⟩
  obtain ⟨t0, t1, t2⟩ := P.turn0 hs
  rw [show k * 6 + 0 = k * 6 from rfl, t0, t1, t2, rod_none] at ef
  simp only [Prod.mk.injEq, and_true] at ef
  obtain ⟨rfl, rfl, rfl, rfl⟩ := ef
  rw [att_none U] at ec
  simp only [Prod.mk.injEq, and_true] at ec
  obtain ⟨h0, h1, h2, h3⟩ := ec
  rw [← h0, ← h1, ← h2, ← h3] at ez eu
  rw [ey] at ez
  rw [ew] at eu
  simp only [Prod.mk.injEq, and_true] at ez eu
  obtain ⟨rfl, rfl, rfl⟩ := ez
  obtain ⟨rfl, rfl, rfl⟩ := eu
  exact ⟨rfl, rfl⟩
 have good : (hviewedS false g x skyF).2 = false := (view_good g x skyF false).2 ⟨rfl, fun k hk => by obtain ⟨_, _, G, _⟩ := each k hk; exact G⟩
 have val := fun k (hk : k < 13) j (hj : j < 6) => view_val good (k := k) (j := j) hk hj
 have rows : ∀ k, k < 13 → ∀ z w : V3, (wS false (fattitudeS false g (rowK x k)).1 (sA skyF) (sB skyF)).1 = (z, w) → fst3 (hviewedS false g x skyF).1 k = rv z.1 z.2.1 z.2.2 ∧ snd3 (hviewedS false g x skyF).1 k = rv w.1 w.2.1 w.2.2 := fun k hk z w h => by
  have v0 := val k hk 0 (by omega); have v1 := val k hk 1 (by omega); have v2 := val k hk 2 (by omega); have v3 := val k hk 3 (by omega); have v4 := val k hk 4 (by omega); have v5 := val k hk 5 (by omega)
  rw [h] at v0 v1 v2 v3 v4 v5
  unfold fst3 snd3
  rw [show k * 6 = k * 6 + 0 from rfl, v0, v1, v2, v3, v4, v5]
  exact ⟨rfl, rfl⟩
 refine ⟨(hviewedS false g x skyF).1, y0, y1, y2, w0, w1, w2, Prod.ext rfl good, ey, ew, dr, fun k hk => ?_, fun k hk j hj => ?_, fun k hk => ?_⟩
 ·have k13 : k < 13 := by unfold still at hk; omega
  obtain ⟨z, w, _, h, _, _, st⟩ := each k k13
  obtain ⟨rfl, rfl⟩ := st hk
  exact rows k k13 _ _ h
 ·have k13 : k < 13 := by unfold still at hk; omega
  obtain ⟨z, w, _, h, _, _, st⟩ := each k k13
  obtain ⟨z', w', _, h', _, _, st'⟩ := each 0 (by omega)
  obtain ⟨rfl, rfl⟩ := st hk
  obtain ⟨rfl, rfl⟩ := st' (Or.inl rfl)
  have a := val k k13 j hj; have b := val 0 (by omega) j hj
  rw [h] at a
  rw [h'] at b
  rw [show 0 * 6 + j = j by omega] at b
  rw [a, b]
 ·obtain ⟨z, w, _, h, n1, n2, _⟩ := each k hk
  obtain ⟨r1, r2⟩ := rows k hk _ _ h
  rw [r1, r2]
  exact ⟨n1, n2⟩
end Go.Proofs.Ytooehgijllihdaa.Ff
namespace Go.Proofs.Ytooehgijllihdaa.Ff
open Go.RowKit
theorem hxv_trn (p v : R3) : hxv p v = trn (sc (8 / (16 + dt p p)) p) ((16 - dt p p) / (16 + dt p p)) v := by
 have D0 := dt_nn p
 have e1 : ∀ D : Rat, 0 ≤ D → 128 / ((16 + D) * (16 + D)) = 128 * ((16 + D)⁻¹ * (16 + D)⁻¹) := fun D h => by
  have : 16 + D ≠ 0 := by grind
  grind
 have e2 : ∀ D : Rat, 0 ≤ D → 16 * (16 - D) / ((16 + D) * (16 + D)) = 16 * (16 - D) * ((16 + D)⁻¹ * (16 + D)⁻¹) := fun D h => by
  have : 16 + D ≠ 0 := by grind
  grind
 have e3 : ∀ D : Rat, 8 / (16 + D) = 8 * (16 + D)⁻¹ := fun D => by grind
 have e4 : ∀ D : Rat, (16 - D) / (16 + D) = (16 - D) * (16 + D)⁻¹ := fun D => by grind
 unfold hxv
 rw [e1 _ D0, e2 _ D0, e3, e4]
 generalize (16 + dt p p)⁻¹ = i
 generalize dt p p = D
 obtain ⟨p1, p2, p3⟩ := p; obtain ⟨x1, x2, x3⟩ := v
 simp only [trn, sb3, ad, sc, cr]
 congr 1 <;> grind
theorem hxv_len (p v : R3) : dt (hxv p v) (hxv p v) = dt v v := by
 rw [hxv_trn, trn_dt]
 have D0 := dt_nn p
 have e : dt (sc (8 / (16 + dt p p)) p) (sc (8 / (16 + dt p p)) p) = 8 / (16 + dt p p) * (8 / (16 + dt p p)) * dt p p := sc_sq _ _
 rw [e]
 generalize dt p p = D at *
 have G0 : (16 + D) ≠ 0 := by grind
 have z : 8 / (16 + D) * (8 / (16 + D)) * D + (16 - D) / (16 + D) * ((16 - D) / (16 + D)) - 1 = 0 := by grind
 rw [z]; grind
theorem Vws.bd {x vw : Nat → Int} {v1 v2 : R3} (V : Vws x vw v1 v2) {k j : Nat} (hk : k < 13) (hj : j < 6) : Ab (vw (k * 6 + j)) 3298534883328 := by
 obtain ⟨n1, n2⟩ := V.near k hk
 have l1 := part_two (v := hxv (pv x k) v1) (by rw [hxv_len]; have := V.dirs.a; have := V.dirs.t1; grind)
 have l2 := part_two (v := hxv (pv x k) v2) (by rw [hxv_len]; have := V.dirs.b; have := V.dirs.t1; grind)
 have cl : ∀ (z : Int) (y : Rat), Nr (qr z) y (1500 / 1099511627776) → (y ≤ 2 ∧ -2 ≤ y) → Ab z 3298534883328 := fun z y n h => by
  have := n.hi; have := n.lo
  have e : qr z = (z : Rat) / 1099511627776 := rfl
  have a1 : ((z : Int) : Rat) ≤ ((3298534883328 : Int) : Rat) := by push_cast; grind
  have a2 : ((-3298534883328 : Int) : Rat) ≤ ((z : Int) : Rat) := by push_cast; grind
  exact ⟨Rat.intCast_le_intCast.1 a2, Rat.intCast_le_intCast.1 a1⟩
 rcases (show j = 0 ∨ j = 1 ∨ j = 2 ∨ j = 3 ∨ j = 4 ∨ j = 5 by omega) with rfl | rfl | rfl | rfl | rfl | rfl
 ·exact cl _ _ n1.a l1.1
 ·exact cl _ _ n1.b l1.2.1
 ·exact cl _ _ n1.c l1.2.2
 ·exact cl _ _ n2.a l2.1
 ·exact cl _ _ n2.b l2.2.1
 ·exact cl _ _ n2.c l2.2.2
def X9 (x d : Nat → Int) (k r : Nat) : Rat := if r < 3 then qr (x (k * 6 + r)) else qr (d (k * 6 + (r - 3)))
def m9 (g C S : Nat → Int) (r s : Nat) : Rat := if r < 3 then (if s < 3 then qr (g (7 + (r * 6 + s))) else qr (C (r * 6 + (s - 3)))) else (if s < 3 then qr (C (s * 6 + (r - 3))) else qr (S ((r - 3) * 6 + (s - 3))))
structure Mns (g x vw z d S C : Nat → Int) : Prop where
 em : hmeanS false vw = (z, false)
 eb : hbesideS false vw z = (d, false)
 es : ∃ s0, hproductsS false d d = (s0, false) ∧ hraisedS false s0 67108864 268435456 = (S, false)
 ec : hproductsS false x d = (C, false)
 dv : ∀ k, k < 13 → ∀ j, j < 6 → d (k * 6 + j) = vw (k * 6 + j) - z j
 zb : ∀ j, j < 6 → Ab (z j) 3298534883329
 zn : ∀ j, j < 6 → Nr (qr (z j)) (sum13 (fun k => qr (vw (k * 6 + j))) / 14) (1 / 2199023255552)
 db : ∀ k, k < 13 → ∀ j, j < 6 → Ab (d (k * 6 + j)) 8796093022208
 sb : ∀ i j, i < 6 → j < 6 → S (i * 6 + j) = S (j * 6 + i)
 near : ∀ r s, r < 9 → s < 9 → Nr (m9 g C S r s) (sum13 (fun k => X9 x d k r * X9 x d k s) / 14 + (if r = s then (if r < 3 then 0 else if r < 6 then 1 / 16384 else 1 / 4096) else 0)) (9 / 1099511627776)
theorem means_are {g x vw : Nat → Int} {v1 v2 : R3} (P : Pts g x) (V : Vws x vw v1 v2) : ∃ z d S C, Mns g x vw z d S C := by
 have mn := fun j (hj : j < 6) => mean_near (x := vw) (i := j) (K := 3298534883328) (by decide) (fun k hk => V.bd hk hj)
 have mg : (hmeanS false vw).2 = false := (mean_good vw false).2 ⟨rfl, fun j hj => by obtain ⟨m, e, _⟩ := mn j hj; rw [e]⟩
 have mv := fun j (hj : j < 6) => mean_val mg hj
 obtain ⟨z, hz⟩ : ∃ z, z = (hmeanS false vw).1 := ⟨_, rfl⟩
 have em : hmeanS false vw = (z, false) := Prod.ext hz.symm mg
 have zn : ∀ j, j < 6 → Nr (qr (z j)) (sum13 (fun k => qr (vw (k * 6 + j))) / 14) (1 / 2199023255552) := fun j hj => by
  obtain ⟨m, e, n⟩ := mn j hj
  rw [hz, mv j hj, e]; exact n
 have zb : ∀ j, j < 6 → Ab (z j) 3298534883329 := fun j hj => by
  have n := zn j hj
  have b : ∀ k, k < 13 → qr (vw (k * 6 + j)) ≤ 3 ∧ -3 ≤ qr (vw (k * 6 + j)) := fun k hk => by
   have := qr_ab (V.bd hk hj)
   have e : qr 3298534883328 = 3 := by unfold qr; push_cast; grind
   rw [e] at this; exact this
  have s : Nr (sr (fun t => qr (vw ((t + 1) * 6 + j))) 12) (sr (fun _ => 0) 12) (12 * 3) := by
   have := sum_near (n := 12) (f := fun t => qr (vw ((t + 1) * 6 + j))) (g := fun _ => 0) (e := 3) (fun t ht => by have := b (t + 1) (by omega); constructor <;> grind)
   push_cast at this; exact this
  rw [sr_zero fun _ _ => rfl] at s
  have b0 := b 0 (by omega)
  have s1 := s.hi; have s2 := s.lo; have n1 := n.hi; have n2 := n.lo
  unfold sum13 at n1 n2
  have e : qr (z j) = (z j : Rat) / 1099511627776 := rfl
  have a1 : ((z j : Int) : Rat) ≤ ((3298534883329 : Int) : Rat) := by push_cast; grind
  have a2 : ((-3298534883329 : Int) : Rat) ≤ ((z j : Int) : Rat) := by push_cast; grind
  exact ⟨Rat.intCast_le_intCast.1 a2, Rat.intCast_le_intCast.1 a1⟩
 have sg := fun k (hk : k < 13) j (hj : j < 6) => sub_near (V.bd (k := k) (j := j) hk hj) (zb j hj) (by decide) (by decide) (by decide)
 have bg : (hbesideS false vw z).2 = false := (beside_good vw z false).2 ⟨rfl, fun k hk j hj => by rw [sg k hk j hj]⟩
 obtain ⟨d, hd⟩ : ∃ d, d = (hbesideS false vw z).1 := ⟨_, rfl⟩
 have dv : ∀ k, k < 13 → ∀ j, j < 6 → d (k * 6 + j) = vw (k * 6 + j) - z j := fun k hk j hj => by rw [hd, beside_val bg hk hj, sg k hk j hj]
 have db : ∀ k, k < 13 → ∀ j, j < 6 → Ab (d (k * 6 + j)) 8796093022208 := fun k hk j hj => by
  rw [dv k hk j hj]
  exact ((V.bd hk hj).sub (zb j hj)).le (by decide)
 have xb : ∀ k, k < 13 → ∀ i, i < 6 → Ab (x (k * 6 + i)) 8796093022208 := fun k hk i hi => (P.ab k hk i hi).le (by decide)
 have pS := fun i (hi : i < 6) j (hj : j < 6) => prod_near (x := d) (y := d) (i := i) (j := j) (fun k hk => db k hk i hi) (fun k hk => db k hk j hj)
 have pC := fun i (hi : i < 6) j (hj : j < 6) => prod_near (x := x) (y := d) (i := i) (j := j) (fun k hk => xb k hk i hi) (fun k hk => db k hk j hj)
 have gS : (hproductsS false d d).2 = false := (prod_good d d false).2 ⟨rfl, fun i hi j hj => by obtain ⟨m, e, _⟩ := pS i hi j hj; rw [e]⟩
 have gC : (hproductsS false x d).2 = false := (prod_good x d false).2 ⟨rfl, fun i hi j hj => by obtain ⟨m, e, _⟩ := pC i hi j hj; rw [e]⟩
 obtain ⟨s0, hs0⟩ : ∃ s, s = (hproductsS false d d).1 := ⟨_, rfl⟩
 obtain ⟨C, hC⟩ : ∃ s, s = (hproductsS false x d).1 := ⟨_, rfl⟩
 have s0v : ∀ i j, i < 6 → j < 6 → Nr (qr (s0 (i * 6 + j))) (sum13 (fun k => qr (d (k * 6 + i)) * qr (d (k * 6 + j))) / 14) (1 / 1099511627776) ∧ Ab (s0 (i * 6 + j)) 70368744177667 := fun i j hi hj => by
  obtain ⟨m, e, n, b⟩ := pS i hi j hj
  rw [hs0, prod_val gS hi hj, e]; exact ⟨n, b⟩
 have cv : ∀ i j, i < 6 → j < 6 → Nr (qr (C (i * 6 + j))) (sum13 (fun k => qr (x (k * 6 + i)) * qr (d (k * 6 + j))) / 14) (1 / 1099511627776) := fun i j hi hj => by
  obtain ⟨m, e, n, _⟩ := pC i hi j hj
  rw [hC, prod_val gC hi hj, e]; exact n
 have hei : ∀ i, i < 6 → Ab (heitherP i 67108864 268435456) 268435456 := fun i hi => by unfold heitherP; split <;> exact ⟨by decide, by decide⟩
 have ag := fun i (hi : i < 6) => add_near (s0v i i hi hi).2 (hei i hi) (by decide) (by decide) (by decide)
 have gR : (hraisedS false s0 67108864 268435456).2 = false := (raised_good s0 67108864 268435456 false).2 ⟨rfl, fun i hi => by rw [show i * 7 = i * 6 + i by omega, ag i hi]⟩
 obtain ⟨S, hS⟩ : ∃ s, s = (hraisedS false s0 67108864 268435456).1 := ⟨_, rfl⟩
 have Sd : ∀ i, i < 6 → S (i * 6 + i) = s0 (i * 6 + i) + heitherP i 67108864 268435456 := fun i hi => by
  rw [hS, show i * 6 + i = i * 7 by omega, raised_val gR hi, show i * 7 = i * 6 + i by omega, ag i hi]
 have So : ∀ i j, i < 6 → j < 6 → i ≠ j → S (i * 6 + j) = s0 (i * 6 + j) := fun i j hi hj h => by
  rw [hS, raised_off _ _ _ _ (fun k hk => by omega)]
 have s0s : ∀ i j, i < 6 → j < 6 → s0 (i * 6 + j) = s0 (j * 6 + i) := fun i j hi hj => by
  rw [hs0, prod_val gS hi hj, prod_val gS hj hi, prod_comm]
 refine ⟨z, d, S, C, em, Prod.ext hd.symm bg, ⟨s0, Prod.ext hs0.symm gS, Prod.ext hS.symm gR⟩, Prod.ext hC.symm gC, dv, zb, zn, db, fun i j hi hj => ?_, fun r s hr hs => ?_⟩
 ·by_cases c : i = j
  ·subst c; rfl
  ·rw [So i j hi hj c, So j i hj hi (Ne.symm c), s0s i j hi hj]
 ·by_cases r3 : r < 3
  ·by_cases s3 : s < 3
   ·have n := P.near r s r3 s3
    have e1 : m9 g C S r s = qr (g (7 + (r * 6 + s))) := by unfold m9; rw [if_pos r3, if_pos s3]
    have e2 : (fun k => X9 x d k r * X9 x d k s) = fun k => qr (x (k * 6 + r)) * qr (x (k * 6 + s)) := by funext k; unfold X9; rw [if_pos r3, if_pos s3]
    have e3 : (if r = s then (if r < 3 then (0 : Rat) else if r < 6 then 1 / 16384 else 1 / 4096) else 0) = 0 := by rw [if_pos r3]; split <;> rfl
    rw [e1, e2, e3]
    have := n.hi; have := n.lo
    constructor <;> grind
   ·have n := cv r (s - 3) (by omega) (by omega)
    have e1 : m9 g C S r s = qr (C (r * 6 + (s - 3))) := by unfold m9; rw [if_pos r3, if_neg s3]
    have e2 : (fun k => X9 x d k r * X9 x d k s) = fun k => qr (x (k * 6 + r)) * qr (d (k * 6 + (s - 3))) := by funext k; unfold X9; rw [if_pos r3, if_neg s3]
    rw [e1, e2, if_neg (by omega)]
    have := n.hi; have := n.lo
    constructor <;> grind
  ·by_cases s3 : s < 3
   ·have n := cv s (r - 3) (by omega) (by omega)
    have e1 : m9 g C S r s = qr (C (s * 6 + (r - 3))) := by unfold m9; rw [if_neg r3, if_pos s3]
    have e2 : (fun k => X9 x d k r * X9 x d k s) = fun k => qr (x (k * 6 + s)) * qr (d (k * 6 + (r - 3))) := by funext k; unfold X9; rw [if_neg r3, if_pos s3]; grind
    rw [e1, e2, if_neg (by omega)]
    have := n.hi; have := n.lo
    constructor <;> grind
   ·have n := (s0v (r - 3) (s - 3) (by omega) (by omega)).1
    have e1 : m9 g C S r s = qr (S ((r - 3) * 6 + (s - 3))) := by unfold m9; rw [if_neg r3, if_neg s3]
    have e2 : (fun k => X9 x d k r * X9 x d k s) = fun k => qr (d (k * 6 + (r - 3))) * qr (d (k * 6 + (s - 3))) := by funext k; unfold X9; rw [if_neg r3, if_neg s3]
    rw [e1, e2]
    by_cases c : r = s
    ·subst c
     rw [if_pos rfl, if_neg r3, Sd (r - 3) (by omega), qr_add]
     have h := n.hi; have l := n.lo
     by_cases c6 : r < 6
     ·have e4 : qr (heitherP (r - 3) 67108864 268435456) = 1 / 16384 := by unfold heitherP; rw [if_pos (by omega)]; unfold qr; push_cast; grind
      rw [e4, if_pos c6]; constructor <;> grind
     ·have e4 : qr (heitherP (r - 3) 67108864 268435456) = 1 / 4096 := by unfold heitherP; rw [if_neg (by omega)]; unfold qr; push_cast; grind
      rw [e4, if_neg c6]; constructor <;> grind
    ·rw [if_neg c, So (r - 3) (s - 3) (by omega) (by omega) (by omega)]
     have h := n.hi; have l := n.lo
     constructor <;> grind
end Go.Proofs.Ytooehgijllihdaa.Ff
namespace Go.Proofs.Ytooehgijllihdaa.Ff
open Go.RowKit
theorem thirteen_x {g x vw z d S C : Nat → Int} {v1 v2 : R3} (P : Pts g x) (V : Vws x vw v1 v2) (M : Mns g x vw z d S C) : Thirteen (X9 x d) := by
 have tn := fun k (hk : still k) => P.turn0 hk
 refine ⟨fun i hi => ?_, fun k hk i hi => ?_, fun k hk i hi => ?_⟩
 ·unfold X9; rw [if_pos hi, show 0 * 6 + i = i by omega, P.z0 i (by omega)]; exact qr_zero'
 ·have sk : still k := by unfold still; omega
  unfold X9
  by_cases c : i < 3
  ·rw [if_pos c, if_pos c]
   have a := tn k sk; have b := tn 0 (Or.inl rfl)
   rcases (show i = 0 ∨ i = 1 ∨ i = 2 by omega) with rfl | rfl | rfl
   ·show qr (x (k * 6)) = qr (x (0 * 6)); rw [a.1, b.1]
   ·rw [a.2.1, b.2.1]
   ·rw [a.2.2, b.2.2]
  ·have k13 : k < 13 := by omega
   rw [if_neg c, if_neg c, M.dv k k13 (i - 3) (by omega), M.dv 0 (by omega) (i - 3) (by omega), V.same k sk (i - 3) (by omega), show 0 * 6 + (i - 3) = i - 3 by omega]
 ·unfold X9
  rw [if_pos hi, if_pos hi]
  have := P.opp (k - 1) (by omega) i (by omega)
  rw [show 7 + (k - 1) = k + 6 by omega, show 1 + (k - 1) = k by omega] at this
  rw [this, qr_neg]
def ng (p : R3) : R3 := ⟨-p.x, -p.y, -p.z⟩
theorem dt_ng (p : R3) : dt (ng p) (ng p) = dt p p := by simp only [dt, ng]; grind
def sfac (D : Rat) : Rat := 16 * (16 - D) / ((16 + D) * (16 + D))
def tfac (D : Rat) : Rat := 128 / ((16 + D) * (16 + D))
theorem inv_rng {G : Rat} (h : 256 ≤ G) : G * G⁻¹ = 1 ∧ 0 ≤ G⁻¹ ∧ G⁻¹ ≤ 1 / 256 := by
 have gn : G ≠ 0 := by grind
 have i1 : G * G⁻¹ = 1 := by grind
 generalize G⁻¹ = i at *
 have i0 : 0 ≤ i := by
  apply Classical.byContradiction; intro c
  have := Rat.mul_nonneg (show 0 ≤ G by grind) (show 0 ≤ -i by grind)
  grind
 have := mul_le_l h i0
 exact ⟨i1, i0, by grind⟩
theorem gg_ge {D : Rat} (h : 0 ≤ D) : 256 ≤ (16 + D) * (16 + D) := by have := sq_le_sq (show (0 : Rat) ≤ 16 by decide) (show 16 ≤ 16 + D by grind); grind
theorem tfac_rng {D : Rat} (h : 0 ≤ D) : 0 ≤ tfac D ∧ tfac D ≤ 1 / 2 := by
 obtain ⟨i1, i0, i2⟩ := inv_rng (gg_ge h)
 have e : tfac D = 128 * ((16 + D) * (16 + D))⁻¹ := by unfold tfac; grind
 rw [e]
 constructor <;> grind
theorem sfac_rng {D : Rat} (h : 0 ≤ D) : sfac D ≤ 1 ∧ 1 - 3 / 16 * D ≤ sfac D := by
 obtain ⟨i1, i0, i2⟩ := inv_rng (gg_ge h)
 have e : sfac D = 16 * (16 - D) * ((16 + D) * (16 + D))⁻¹ := by unfold sfac; grind
 rw [e]
 generalize hG : (16 + D) * (16 + D) = G at *
 generalize G⁻¹ = i at *
 have DD := Rat.mul_nonneg h h
 have D3 := Rat.mul_nonneg DD h
 have k1 : 16 * (16 - D) ≤ G := by grind
 have k2 : (1 - 3 / 16 * D) * G ≤ 16 * (16 - D) := by rw [← hG]; grind
 have m1 := mul_le_l k1 i0
 have m2 := mul_le_l k2 i0
 have e3 : i * ((1 - 3 / 16 * D) * G) = 1 - 3 / 16 * D := by grind
 constructor <;> grind
theorem hxv_x (p v : R3) : hxv p v = sb3 (ad v (sc (tfac (dt p p)) (cr p (cr p v)))) (sc (sfac (dt p p)) (cr p v)) := rfl
theorem hxv_n (p v : R3) : hxv (ng p) v = ad (ad v (sc (tfac (dt p p)) (cr p (cr p v)))) (sc (sfac (dt p p)) (cr p v)) := by
 rw [hxv_x, dt_ng]
 generalize tfac (dt p p) = t
 generalize sfac (dt p p) = s
 obtain ⟨p1, p2, p3⟩ := p; obtain ⟨x1, x2, x3⟩ := v
 simp only [sb3, ad, sc, cr, ng]
 congr 1 <;> grind
theorem halves {A B p v : R3} {e : Rat} (h : Nr3 A (hxv p v) e) (k : Nr3 B (hxv (ng p) v) e) :
  dt (ad (sc (1 / 2) (sb3 A B)) (sc (sfac (dt p p)) (cr p v))) (ad (sc (1 / 2) (sb3 A B)) (sc (sfac (dt p p)) (cr p v))) ≤ 3 * (e * e) ∧
  dt (sb3 (sb3 (sc (1 / 2) (ad A B)) v) (sc (tfac (dt p p)) (cr p (cr p v)))) (sb3 (sb3 (sc (1 / 2) (ad A B)) v) (sc (tfac (dt p p)) (cr p (cr p v)))) ≤ 3 * (e * e) := by
 rw [hxv_x] at h
 rw [hxv_n] at k
 generalize tfac (dt p p) = t at *
 generalize sfac (dt p p) = s at *
 generalize cr p (cr p v) = q at *
 generalize cr p v = w at *
 have a1 := h.a.hi; have a2 := h.a.lo; have a3 := h.b.hi; have a4 := h.b.lo; have a5 := h.c.hi; have a6 := h.c.lo
 have b1 := k.a.hi; have b2 := k.a.lo; have b3 := k.b.hi; have b4 := k.b.lo; have b5 := k.c.hi; have b6 := k.c.lo
 simp only [sb3, ad, sc] at a1 a2 a3 a4 a5 a6 b1 b2 b3 b4 b5 b6
 constructor
 ·have s1 := abs_sq (x := 1 / 2 * (A.x - B.x) + s * w.x) (t := e) (by grind) (by grind)
  have s2 := abs_sq (x := 1 / 2 * (A.y - B.y) + s * w.y) (t := e) (by grind) (by grind)
  have s3 := abs_sq (x := 1 / 2 * (A.z - B.z) + s * w.z) (t := e) (by grind) (by grind)
  simp only [dt, ad, sc, sb3]; grind
 ·have s1 := abs_sq (x := 1 / 2 * (A.x + B.x) - v.x - t * q.x) (t := e) (by grind) (by grind)
  have s2 := abs_sq (x := 1 / 2 * (A.y + B.y) - v.y - t * q.y) (t := e) (by grind) (by grind)
  have s3 := abs_sq (x := 1 / 2 * (A.z + B.z) - v.z - t * q.z) (t := e) (by grind) (by grind)
  simp only [dt, ad, sc, sb3]; grind
theorem pts_ok {g x vw z d S C : Nat → Int} {v1 v2 : R3} {D s sg : Rat} (P : Pts g x) (V : Vws x vw v1 v2) (M : Mns g x vw z d S C) {k : Nat} (hk : k = 1 ∨ k = 2 ∨ k = 3) (hD : dt (pv x k) (pv x k) ≤ D) (hs : (sfac (dt (pv x k) (pv x k)) - s) * (sfac (dt (pv x k) (pv x k)) - s) ≤ sg) :
  (vwOf (X9 x d) k).Ok v1 v2 D s sg (3 * (1500 / 1099511627776 * (1500 / 1099511627776))) := by
 have n := V.near k (by omega); have n' := V.near (k + 6) (by omega)
 have np : pv x (k + 6) = ng (pv x k) := by
  have o := P.opp (k - 1) (by omega)
  rw [show 7 + (k - 1) = k + 6 by omega, show 1 + (k - 1) = k by omega] at o
  have o0 := o 0 (by omega); have o1 := o 1 (by omega); have o2 := o 2 (by omega)
  unfold pv rv ng
  rw [show (k + 6) * 6 = (k + 6) * 6 + 0 from rfl, o0, o1, o2, qr_neg, qr_neg, qr_neg]
  rfl
 rw [np] at n'
 have h1 := halves n.1 n'.1
 have h2 := halves n.2 n'.2
 have dv : ∀ k, k < 13 → ∀ j, j < 6 → qr (d (k * 6 + j)) = qr (vw (k * 6 + j)) - qr (z j) := fun k hk j hj => by rw [M.dv k hk j hj, qr_sub]
 have s0 := V.s1 0 (Or.inl rfl)
 have w0 := dv k (by omega) 0 (by omega); have w1 := dv k (by omega) 1 (by omega); have w2 := dv k (by omega) 2 (by omega); have w3 := dv k (by omega) 3 (by omega); have w4 := dv k (by omega) 4 (by omega); have w5 := dv k (by omega) 5 (by omega)
 have y0 := dv (k + 6) (by omega) 0 (by omega); have y1 := dv (k + 6) (by omega) 1 (by omega); have y2 := dv (k + 6) (by omega) 2 (by omega); have y3 := dv (k + 6) (by omega) 3 (by omega); have y4 := dv (k + 6) (by omega) 4 (by omega); have y5 := dv (k + 6) (by omega) 5 (by omega)
 have u0 := dv 0 (by omega) 0 (by omega); have u1 := dv 0 (by omega) 1 (by omega); have u2 := dv 0 (by omega) 2 (by omega); have u3 := dv 0 (by omega) 3 (by omega); have u4 := dv 0 (by omega) 4 (by omega); have u5 := dv 0 (by omega) 5 (by omega)
 have X3 : ∀ k, X9 x d k 3 = qr (d (k * 6 + 0)) ∧ X9 x d k 4 = qr (d (k * 6 + 1)) ∧ X9 x d k 5 = qr (d (k * 6 + 2)) ∧ X9 x d k 6 = qr (d (k * 6 + 3)) ∧ X9 x d k 7 = qr (d (k * 6 + 4)) ∧ X9 x d k 8 = qr (d (k * 6 + 5)) := fun k => ⟨rfl, rfl, rfl, rfl, rfl, rfl⟩
 have o1 : (vwOf (X9 x d) k).o1 = sc (1 / 2) (sb3 (fst3 vw k) (fst3 vw (k + 6))) := by
  unfold vwOf
  dsimp only
  rw [(X3 k).1, (X3 k).2.1, (X3 k).2.2.1, (X3 (k + 6)).1, (X3 (k + 6)).2.1, (X3 (k + 6)).2.2.1, w0, w1, w2, y0, y1, y2]
  simp only [sc, sb3, fst3, rv, Nat.add_zero]
  congr 1 <;> grind
 have o2 : (vwOf (X9 x d) k).o2 = sc (1 / 2) (sb3 (snd3 vw k) (snd3 vw (k + 6))) := by
  unfold vwOf
  dsimp only
  rw [(X3 k).2.2.2.1, (X3 k).2.2.2.2.1, (X3 k).2.2.2.2.2, (X3 (k + 6)).2.2.2.1, (X3 (k + 6)).2.2.2.2.1, (X3 (k + 6)).2.2.2.2.2, w3, w4, w5, y3, y4, y5]
  simp only [sc, sb3, snd3, rv]
  congr 1 <;> grind
 have e1 : (vwOf (X9 x d) k).e1 = sb3 (sc (1 / 2) (ad (fst3 vw k) (fst3 vw (k + 6)))) v1 := by
  rw [← s0.1]
  unfold vwOf
  dsimp only
  rw [(X3 k).1, (X3 k).2.1, (X3 k).2.2.1, (X3 (k + 6)).1, (X3 (k + 6)).2.1, (X3 (k + 6)).2.2.1, (X3 0).1, (X3 0).2.1, (X3 0).2.2.1, w0, w1, w2, y0, y1, y2, u0, u1, u2]
  simp only [sc, sb3, ad, fst3, rv, Nat.add_zero]
  congr 1 <;> grind
 have e2 : (vwOf (X9 x d) k).e2 = sb3 (sc (1 / 2) (ad (snd3 vw k) (snd3 vw (k + 6)))) v2 := by
  rw [← s0.2]
  unfold vwOf
  dsimp only
  rw [(X3 k).2.2.2.1, (X3 k).2.2.2.2.1, (X3 k).2.2.2.2.2, (X3 (k + 6)).2.2.2.1, (X3 (k + 6)).2.2.2.2.1, (X3 (k + 6)).2.2.2.2.2, (X3 0).2.2.2.1, (X3 0).2.2.2.2.1, (X3 0).2.2.2.2.2, w3, w4, w5, y3, y4, y5, u3, u4, u5]
  simp only [sc, sb3, ad, snd3, rv]
  congr 1 <;> grind
 have pe : (vwOf (X9 x d) k).p = pv x k := rfl
 have tr := tfac_rng (dt_nn (pv x k))
 refine ⟨by rw [pe]; exact hD, ⟨sfac (dt (pv x k) (pv x k)), hs, ?_, ?_⟩, ⟨tfac (dt (pv x k) (pv x k)), tr.1, tr.2, ?_, ?_⟩⟩
 ·rw [o1, pe]; exact h1.1
 ·rw [o2, pe]; exact h2.1
 ·rw [e1, pe]; exact h1.2
 ·rw [e2, pe]; exact h2.2
end Go.Proofs.Ytooehgijllihdaa.Ff
namespace Go.Proofs.Ytooehgijllihdaa.Ff
open Go.RowKit
theorem w9_tail (a : R3) : ∀ k, 3 ≤ k → w9 a ⟨0, 0, 0⟩ ⟨0, 0, 0⟩ k = 0 := fun k hk => by
 unfold w9
 rw [if_neg (by omega), if_neg (by omega), if_neg (by omega)]
 repeat (first | rfl | (split; grind))
theorem quad_a {g C S : Nat → Int} (a : R3) : quad (m9 g C S) 9 (w9 a ⟨0, 0, 0⟩ ⟨0, 0, 0⟩) = fA g a := by
 have wt := w9_tail a
 unfold quad
 rw [sr_tail (a := 3) (by omega) (fun k h1 _ => by rw [wt k h1]; grind)]
 have inner : ∀ r, sr (fun s => m9 g C S r s * w9 a ⟨0, 0, 0⟩ ⟨0, 0, 0⟩ s) 9 = sr (fun s => m9 g C S r s * w9 a ⟨0, 0, 0⟩ ⟨0, 0, 0⟩ s) 3 := fun r => sr_tail (a := 3) (by omega) (fun k h1 _ => by rw [wt k h1]; grind)
 rw [sr_eq fun r _ => by rw [inner r]]
 have w0 : w9 a ⟨0, 0, 0⟩ ⟨0, 0, 0⟩ 0 = a.x := rfl
 have w1 : w9 a ⟨0, 0, 0⟩ ⟨0, 0, 0⟩ 1 = a.y := rfl
 have w2 : w9 a ⟨0, 0, 0⟩ ⟨0, 0, 0⟩ 2 = a.z := rfl
 simp only [sr, w0, w1, w2]
 have e00 : m9 g C S 0 0 = qr (g 7) := rfl
 have e01 : m9 g C S 0 1 = qr (g 8) := rfl
 have e02 : m9 g C S 0 2 = qr (g 9) := rfl
 have e10 : m9 g C S 1 0 = qr (g 13) := rfl
 have e11 : m9 g C S 1 1 = qr (g 14) := rfl
 have e12 : m9 g C S 1 2 = qr (g 15) := rfl
 have e20 : m9 g C S 2 0 = qr (g 19) := rfl
 have e21 : m9 g C S 2 1 = qr (g 20) := rfl
 have e22 : m9 g C S 2 2 = qr (g 21) := rfl
 rw [e00, e01, e02, e10, e11, e12, e20, e21, e22]
 unfold fA
 grind
theorem frm_near {g x vw z d S C : Nat → Int} {v1 v2 : R3} (P : Pts g x) (V : Vws x vw v1 v2) (M : Mns g x vw z d S C) (a : R3) : Nr (frm (vwOf (X9 x d) 1) (vwOf (X9 x d) 2) (vwOf (X9 x d) 3) a) (fA g a) (81 / 1099511627776 * dt a a) := by
 obtain ⟨r, r0, hr, n⟩ := nine_both (thirteen_x P V M) (show (0 : Rat) ≤ 9 / 1099511627776 by decide +kernel) M.near a ⟨0, 0, 0⟩ ⟨0, 0, 0⟩
 rw [quad_a] at n
 have z1 : ∀ w : R3, dt (⟨0, 0, 0⟩ : R3) w = 0 := fun w => by simp only [dt]; grind
 have g0 : ∀ Q : Vw, Q.g ⟨0, 0, 0⟩ ⟨0, 0, 0⟩ = 0 := fun Q => by unfold Vw.g; rw [z1, z1]; grind
 have w0 : ∀ Q : Vw, Q.w ⟨0, 0, 0⟩ ⟨0, 0, 0⟩ = 0 := fun Q => by unfold Vw.w; rw [z1, z1]; grind
 have mg : mnG (vwOf (X9 x d) 1) (vwOf (X9 x d) 2) (vwOf (X9 x d) 3) ⟨0, 0, 0⟩ ⟨0, 0, 0⟩ = 0 := by unfold mnG; rw [g0, g0, g0]; grind
 have hr0 : r = 0 := by rw [hr, mg]; grind
 have bj : bothJ (1 / 16384) (1 / 4096) (vwOf (X9 x d) 1) (vwOf (X9 x d) 2) (vwOf (X9 x d) 3) r a ⟨0, 0, 0⟩ ⟨0, 0, 0⟩ = frm (vwOf (X9 x d) 1) (vwOf (X9 x d) 2) (vwOf (X9 x d) 3) a := by
  unfold bothJ oddJ evnJ sqG nn
  rw [mg, g0, g0, g0, w0, w0, w0, z1, hr0]
  unfold frm
  grind
 rw [bj, z1] at n
 have := n.symm
 exact this.le (by grind)
theorem hxv_far (p v : R3) : dt (sb3 (hxv p v) v) (sb3 (hxv p v) v) ≤ dt p p * dt v v := by
 have e : dt (sb3 (hxv p v) v) (sb3 (hxv p v) v) = dt (cr p v) (cr p v) * (sfac (dt p p) * sfac (dt p p) + tfac (dt p p) * tfac (dt p p) * dt p p) := by
  rw [hxv_x]
  generalize tfac (dt p p) = t
  generalize sfac (dt p p) = s
  obtain ⟨p1, p2, p3⟩ := p; obtain ⟨x1, x2, x3⟩ := v
  simp only [dt, sb3, ad, sc, cr]; grind
 have D0 := dt_nn p
 have one : sfac (dt p p) * sfac (dt p p) + tfac (dt p p) * tfac (dt p p) * dt p p ≤ 1 := by
  generalize dt p p = D at *
  obtain ⟨i1, i0, i2⟩ := inv_rng (gg_ge D0)
  have e1 : sfac D = 16 * (16 - D) * ((16 + D) * (16 + D))⁻¹ := by unfold sfac; grind
  have e2 : tfac D = 128 * ((16 + D) * (16 + D))⁻¹ := by unfold tfac; grind
  rw [e1, e2]
  generalize hG : (16 + D) * (16 + D) = G at *
  generalize G⁻¹ = i at *
  have k : (16 * (16 - D) * i) * (16 * (16 - D) * i) + 128 * i * (128 * i) * D = 256 * i * (G * i) := by rw [← hG]; grind
  rw [k, i1]
  grind
 rw [e]
 have c := cr_le p v
 have n := dt_nn (cr p v)
 have := mul_le_l one n
 grind
structure Small (x d : Nat → Int) : Prop where
 dk : ∀ k, k < 13 → ∀ j, j < 6 → qr (d (k * 6 + j)) ≤ 27 / 50 ∧ -(27 / 50) ≤ qr (d (k * 6 + j))
 xk : ∀ k, k < 13 → ∀ j, j < 6 → qr (x (k * 6 + j)) ≤ 1 ∧ -1 ≤ qr (x (k * 6 + j))
 ds : ∀ k, still k → ∀ j, j < 6 → qr (d (k * 6 + j)) ≤ 41 / 250 ∧ -(41 / 250) ≤ qr (d (k * 6 + j))
theorem comp_le {w : R3} {B : Rat} (B0 : 0 ≤ B) (h : dt w w ≤ B * B) : (w.x ≤ B ∧ -B ≤ w.x) ∧ (w.y ≤ B ∧ -B ≤ w.y) ∧ (w.z ≤ B ∧ -B ≤ w.z) := by
 have s0 := sq_nn w.x; have s1 := sq_nn w.y; have s2 := sq_nn w.z
 simp only [dt] at h
 exact ⟨ab_of_sq B0 (by grind), ab_of_sq B0 (by grind), ab_of_sq B0 (by grind)⟩
theorem small_are {g x vw z d S C : Nat → Int} {v1 v2 : R3} (P : Pts g x) (V : Vws x vw v1 v2) (M : Mns g x vw z d S C) (hD : ∀ k, k < 13 → dt (pv x k) (pv x k) ≤ 141 / 1000) : Small x d := by
 have t1 := V.dirs.t1
 -- each view is within 0.376 of the first
 have far : ∀ k, k < 13 → ∀ j, j < 6 → qr (vw (k * 6 + j)) - qr (vw j) ≤ 188 / 500 ∧ -(188 / 500) ≤ qr (vw (k * 6 + j)) - qr (vw j) := fun k hk j hj => by
  have n := V.near k hk
  have s0 := V.s1 0 (Or.inl rfl)
  have d1 := hxv_far (pv x k) v1; have d2 := hxv_far (pv x k) v2
  have p0 := dt_nn (pv x k)
  have va := V.dirs.a; have vb := V.dirs.b
  have hp := hD k hk
  have q1 := mul_le_l va p0; have q2 := mul_le_l vb p0
  have b1 := comp_le (w := sb3 (hxv (pv x k) v1) v1) (B := 3759 / 10000) (by grind) (by grind)
  have b2 := comp_le (w := sb3 (hxv (pv x k) v2) v2) (B := 3759 / 10000) (by grind) (by grind)
  have f0 : fst3 vw 0 = rv (vw 0) (vw 1) (vw 2) := rfl
  have g0 : snd3 vw 0 = rv (vw 3) (vw 4) (vw 5) := rfl
  rw [← s0.1, f0] at b1 n
  rw [← s0.2, g0] at b2 n
  obtain ⟨⟨m1, m2, m3⟩, m4, m5, m6⟩ := n
  obtain ⟨⟨c1, c2⟩, ⟨c3, c4⟩, c5, c6⟩ := b1
  obtain ⟨⟨e1, e2⟩, ⟨e3, e4⟩, e5, e6⟩ := b2
  simp only [sb3] at c1 c2 c3 c4 c5 c6 e1 e2 e3 e4 e5 e6
  have a1 := m1.hi; have a2 := m1.lo; have a3 := m2.hi; have a4 := m2.lo; have a5 := m3.hi; have a6 := m3.lo
  have h1 := m4.hi; have h2 := m4.lo; have h3 := m5.hi; have h4 := m5.lo; have h5 := m6.hi; have h6 := m6.lo
  simp only [fst3, snd3, rv] at a1 a2 a3 a4 a5 a6 h1 h2 h3 h4 h5 h6 c1 c2 c3 c4 c5 c6 e1 e2 e3 e4 e5 e6
  rcases (show j = 0 ∨ j = 1 ∨ j = 2 ∨ j = 3 ∨ j = 4 ∨ j = 5 by omega) with rfl | rfl | rfl | rfl | rfl | rfl
  ·show qr (vw (k * 6)) - _ ≤ _ ∧ _; constructor <;> grind
  ·constructor <;> grind
  ·constructor <;> grind
  ·constructor <;> grind
  ·constructor <;> grind
  ·constructor <;> grind
 -- the mean is within 0.17 of it
 have zf : ∀ j, j < 6 → qr (z j) - qr (vw j) ≤ 163 / 1000 ∧ -(163 / 1000) ≤ qr (z j) - qr (vw j) := fun j hj => by
  have n := M.zn j hj
  have same := fun k (hk : still k) => V.same k hk j hj
  have f1 := far 1 (by omega) j hj; have f2 := far 2 (by omega) j hj; have f3 := far 3 (by omega) j hj; have f7 := far 7 (by omega) j hj; have f8 := far 8 (by omega) j hj; have f9 := far 9 (by omega) j hj
  have s0 := same 0 (by unfold still; omega); have s4 := same 4 (by unfold still; omega); have s5 := same 5 (by unfold still; omega); have s6 := same 6 (by unfold still; omega); have s10 := same 10 (by unfold still; omega); have s11 := same 11 (by unfold still; omega); have s12 := same 12 (by unfold still; omega)
  have n1 := n.hi; have n2 := n.lo
  unfold sum13 at n1 n2
  simp only [sr] at n1 n2
  simp only [Nat.zero_add, Nat.reduceAdd] at n1 n2
  rw [s0, s4, s5, s6, s10, s11, s12] at n1 n2
  constructor <;> grind
 refine ⟨fun k hk j hj => ?_, fun k hk j hj => ab_one (P.ab k hk j hj), fun k hk j hj => ?_⟩
 ·rw [M.dv k hk j hj, qr_sub]
  have a := far k hk j hj; have b := zf j hj
  constructor <;> grind
 ·rw [M.dv k (by unfold still at hk; omega) j hj, qr_sub, V.same k hk j hj]
  have b := zf j hj
  constructor <;> grind
theorem s_pd {g x vw z d S C : Nat → Int} (M : Mns g x vw z d S C) (L : Small x d) : PD (mt S) (6 / 100000) := by
 have near : ∀ r s, r < 6 → s < 6 → Nr (qr (mt S r s)) (sum13 (fun k => qr (d (k * 6 + r)) * qr (d (k * 6 + s))) / 14 + (if r = s then (if r < 3 then 1 / 16384 else 1 / 4096) else 0)) (9 / 1099511627776) := fun r s hr hs => by
  have n := M.near (r + 3) (s + 3) (by omega) (by omega)
  have e1 : m9 g C S (r + 3) (s + 3) = qr (mt S r s) := by unfold m9 mt; rw [if_neg (by omega), if_neg (by omega), Nat.add_sub_cancel, Nat.add_sub_cancel]
  have e2 : (fun k => X9 x d k (r + 3) * X9 x d k (s + 3)) = fun k => qr (d (k * 6 + r)) * qr (d (k * 6 + s)) := by funext k; unfold X9; rw [if_neg (by omega), if_neg (by omega), Nat.add_sub_cancel, Nat.add_sub_cancel]
  rw [e1, e2] at n
  by_cases c : r = s
  ·subst c
   rw [if_pos rfl] at n ⊢
   rw [if_neg (by omega)] at n
   by_cases c3 : r < 3
   ·rw [if_pos (by omega)] at n; rw [if_pos c3]; exact n
   ·rw [if_neg (by omega)] at n; rw [if_neg c3]; exact n
  ·rw [if_neg (by omega)] at n; rw [if_neg c]; exact n
 refine ⟨fun a b ha hb => ?_, fun a b ha hb => M.sb a b ha hb, fun a => ?_, by decide +kernel⟩
 ·have n := near a b ha hb
  have pr : ∀ k, k < 13 → ∀ B : Rat, (qr (d (k * 6 + a)) ≤ B ∧ -B ≤ qr (d (k * 6 + a))) → (qr (d (k * 6 + b)) ≤ B ∧ -B ≤ qr (d (k * 6 + b))) → qr (d (k * 6 + a)) * qr (d (k * 6 + b)) ≤ B * B ∧ -(B * B) ≤ qr (d (k * 6 + a)) * qr (d (k * 6 + b)) := fun k hk B x1 x2 => by
   have s1 := abs_sq x1.1 x1.2; have s2 := abs_sq x2.1 x2.2
   have d1 := sq_nn (qr (d (k * 6 + a)) - qr (d (k * 6 + b))); have d2 := sq_nn (qr (d (k * 6 + a)) + qr (d (k * 6 + b)))
   constructor <;> grind
  have lo := fun k (hk : still k) => pr k (by unfold still at hk; omega) (41 / 250) (L.ds k hk a ha) (L.ds k hk b hb)
  have hi := fun k (hk : k < 13) => pr k hk (27 / 50) (L.dk k hk a ha) (L.dk k hk b hb)
  have l0 := lo 0 (by unfold still; omega); have l4 := lo 4 (by unfold still; omega); have l5 := lo 5 (by unfold still; omega); have l6 := lo 6 (by unfold still; omega); have l10 := lo 10 (by unfold still; omega); have l11 := lo 11 (by unfold still; omega); have l12 := lo 12 (by unfold still; omega)
  have h1 := hi 1 (by omega); have h2 := hi 2 (by omega); have h3 := hi 3 (by omega); have h7 := hi 7 (by omega); have h8 := hi 8 (by omega); have h9 := hi 9 (by omega)
  have rr : (0 : Rat) ≤ (if a = b then (if a < 3 then 1 / 16384 else 1 / 4096) else 0) ∧ (if a = b then (if a < 3 then (1 : Rat) / 16384 else 1 / 4096) else 0) ≤ 1 / 4096 := by
   split
   ·split <;> constructor <;> grind
   ·constructor <;> grind
  have n1 := n.hi; have n2 := n.lo
  unfold sum13 at n1 n2
  simp only [sr, Nat.zero_add, Nat.reduceAdd] at n1 n2
  generalize (if a = b then (if a < 3 then (1 : Rat) / 16384 else 1 / 4096) else 0) = R at *
  exact ab_up (up := 1 / 4) (by grind) (by grind) (by grind)
 ·have q := quad_near (show (0 : Rat) ≤ 9 / 1099511627776 by decide +kernel) near a
  rw [quad_add, quad_mom (fun k r => qr (d (k * 6 + r))), quad_diag (fun r => if r < 3 then 1 / 16384 else 1 / 4096)] at q
  have l := q.lo
  have s0 : 0 ≤ sum13 (fun k => sr (fun r => qr (d (k * 6 + r)) * a r) 6 * sr (fun r => qr (d (k * 6 + r)) * a r) 6) := by
   unfold sum13
   have h1 := sq_nn (sr (fun r => qr (d (0 * 6 + r)) * a r) 6)
   have h2 : 0 ≤ sr (fun t => sr (fun r => qr (d ((t + 1) * 6 + r)) * a r) 6 * sr (fun r => qr (d ((t + 1) * 6 + r)) * a r) 6) 12 := sr_nn fun k _ => sq_nn _
   grind
  have rd : 1 / 16384 * nrm 6 a ≤ sr (fun r => (if r < 3 then 1 / 16384 else 1 / 4096) * (a r * a r)) 6 := by
   unfold nrm
   rw [← sr_mul]
   exact sr_le fun k _ => by
    have := sq_nn (a k)
    split <;> grind
  have n0 := nrm_nn 6 a
  push_cast at l
  grind
end Go.Proofs.Ytooehgijllihdaa.Ff
namespace Go.Proofs.Ytooehgijllihdaa.Ff
open Go.RowKit
theorem mul_odd {a b K L : Int} (ha : Ab a K) (hb : Ab b L) (hK : K ≤ 1125899906842624) (hL : L ≤ 1125899906842624) : (mulS false (-a) b).1 = -(mulS false a b).1 := by
 by_cases z : a = 0
 ·subst z
  obtain ⟨m, e, r⟩ := mul_near (⟨by decide, by decide⟩ : Ab 0 0) hb (by decide) hL
  rw [Int.neg_zero, e]
  have := r.lo; have := r.hi
  rw [Int.zero_mul] at *
  show m = -m
  omega
 ·have na : numB a = true := ha.numB (by omega)
  have nn' : numB (-a) = true := ha.neg.numB (by omega)
  have nb : numB b = true := hb.numB (by omega)
  rw [mulS_yes (a := -a) (by simp [tk, nn', nb]), mulS_yes (a := a) (by simp [tk, na, nb])]
  have e1 : sz (-a) = sz a := by unfold sz; split <;> split <;> omega
  have e2 : decide (-a < 0) = !decide (a < 0) := by
   by_cases c : a < 0
   ·rw [decide_eq_true c, decide_eq_false (by omega)]; rfl
   ·rw [decide_eq_false c, decide_eq_true (by omega)]; rfl
  rw [e1, e2]
  have e3 : ((!decide (a < 0)) != decide (b < 0)) = !(decide (a < 0) != decide (b < 0)) := by cases decide (a < 0) <;> cases decide (b < 0) <;> rfl
  rw [e3]
  unfold out sgnd
  dsimp only
  generalize (sz a * sz b + 549755813888) / 1099511627776 = n
  by_cases c : n ≤ 4611686018427387904
  ·rw [if_pos c, if_pos c]
   cases (decide (a < 0) != decide (b < 0)) <;> simp
  ·rw [if_neg c, if_neg c]; rfl
theorem prod_zero {x d : Nat → Int} {i j : Nat} (hx : ∀ k, k < 13 → Ab (x (k * 6 + i)) 8796093022208) (hd : ∀ k, k < 13 → Ab (d (k * 6 + j)) 8796093022208) (z : ∀ k, k < 4 → x (k * 6 + i) = 0) (z' : ∀ k, 7 ≤ k → k < 10 → x (k * 6 + i) = 0)
  (o : ∀ k, 4 ≤ k → k < 7 → x ((k + 6) * 6 + i) = -x (k * 6 + i) ∧ d ((k + 6) * 6 + j) = d (k * 6 + j)) : fproductsS false x i d j = (0, false) := by
 have near := fun k hk => mul_near (hx k hk) (hd k hk) (by decide) (by decide)
 have good : ∀ k, k < 13 → (mulS false (x (k * 6 + i)) (d (k * 6 + j))).2 = false := fun k hk => by obtain ⟨m, e, _⟩ := near k hk; rw [e]
 obtain ⟨e, v⟩ := prods_l0 good (Nat.le_refl 13)
 generalize hr : fproductsS_l0 x i d j ((fun _ => 0), false) 13 = r at *
 have val : ∀ k, k < 13 → Ab (r.1 (k * 6 + 0)) 70368744177665 := fun k hk => by
  obtain ⟨m, em, R⟩ := near k hk
  rw [Nat.add_zero, v k hk, em]
  exact prod_bd (hx k hk) (hd k hk) R (by decide)
 have zero : ∀ k, k < 13 → x (k * 6 + i) = 0 → r.1 (k * 6 + 0) = 0 := fun k hk h => by
  rw [Nat.add_zero, v k hk, h]
  obtain ⟨m, em, R⟩ := mul_near (⟨by decide, by decide⟩ : Ab 0 0) (hd k hk) (by decide) (by decide)
  rw [em]
  have := R.lo; have := R.hi
  rw [Int.zero_mul] at *
  show m = 0
  omega
 have opp : ∀ k, 4 ≤ k → k < 7 → r.1 ((k + 6) * 6 + 0) = -r.1 (k * 6 + 0) := fun k h4 h7 => by
  show r.1 ((k + 6) * 6) = -r.1 (k * 6)
  rw [v (k + 6) (by omega), v k (by omega), (o k h4 h7).1, (o k h4 h7).2]
  exact mul_odd (hx k (by omega)) (hd k (by omega)) (by decide) (by decide)
 obtain ⟨em, _⟩ := mean_l0 (x := r.1) (i := 0) (K := 70368744177665) (by decide) val (Nat.le_refl 12)
 have S0 : r.1 0 + r.1 0 + sm (fun t => r.1 ((t + 1) * 6 + 0)) 12 = 0 := by
  have q0 : r.1 0 = 0 := zero 0 (by omega) (z 0 (by omega))
  have q1 := zero 1 (by omega) (z 1 (by omega)); have q2 := zero 2 (by omega) (z 2 (by omega)); have q3 := zero 3 (by omega) (z 3 (by omega))
  have q7 := zero 7 (by omega) (z' 7 (by omega) (by omega)); have q8 := zero 8 (by omega) (z' 8 (by omega) (by omega)); have q9 := zero 9 (by omega) (z' 9 (by omega) (by omega))
  have p4 := opp 4 (by omega) (by omega); have p5 := opp 5 (by omega) (by omega); have p6 := opp 6 (by omega) (by omega)
  simp only [sm, Nat.zero_add, Nat.reduceAdd] at *
  omega
 rw [S0] at em
 have a1 := add_near (⟨by decide, by decide⟩ : Ab 0 0) (val 0 (by omega)) (by decide) (by decide) (by decide)
 have a2 := add_near (val 0 (by omega)) (val 0 (by omega)) (by decide) (by decide) (by decide)
 unfold fproductsS
 dsimp only
 rw [hr, e]
 have fm : fmeanS false r.1 0 = (0, false) := by
  unfold fmeanS
  dsimp only
  rw [show (0 * 6 + 0 : Nat) = 0 from rfl] at a1 a2
  rw [a1]
  dsimp only
  rw [Int.zero_add, a2]
  dsimp only
  rw [em]
  decide
 rw [fm]
theorem c_zero {g x vw z d S C : Nat → Int} {v1 v2 : R3} (P : Pts g x) (V : Vws x vw v1 v2) (M : Mns g x vw z d S C) : ∀ i, 3 ≤ i → i < 6 → ∀ j, j < 6 → C (i * 6 + j) = 0 := fun i h3 h6 j hj => by
 have gC : (hproductsS false x d).2 = false := by rw [M.ec]
 have pv := prod_val gC h6 hj
 rw [M.ec] at pv
 have zz := prod_zero (x := x) (d := d) (i := i) (j := j) (fun k hk => (P.ab k hk i h6).le (by decide)) (fun k hk => M.db k hk j hj)
  (fun k hk => by
   by_cases c : k = 0
   ·subst c; rw [show 0 * 6 + i = i by omega]; exact P.z0 i h6
   ·have := P.bz (k - 1) (by omega) i h3 h6
    rw [show 1 + (k - 1) = k by omega] at this; exact this)
  (fun k h7 h10 => by
   have := P.opp (k - 7) (by omega) i h6
   rw [show 7 + (k - 7) = k by omega, P.bz (k - 7) (by omega) i h3 h6] at this
   rw [this]; rfl)
  (fun k h4 h7 => by
   have o := P.opp (k - 1) (by omega) i h6
   rw [show 7 + (k - 1) = k + 6 by omega, show 1 + (k - 1) = k by omega] at o
   refine ⟨o, ?_⟩
   rw [M.dv (k + 6) (by omega) j hj, M.dv k (by omega) j hj, V.same (k + 6) (by unfold still; omega) j hj, V.same k (by unfold still; omega) j hj])
 rw [zz] at pv
 exact pv
theorem fx_zero {b : Nat → Int} {L : Nat → Nat → Int} {y : Nat → Int} {m : Nat → Nat → Int} (W : Wh m L) (hb : ∀ i, i < 6 → b i = 0) (F : ∀ k, k < 6 → Fx b L y k) : ∀ k, k < 6 → y k = 0 := by
 have h : ∀ n k, k ≤ n → k < 6 → y k = 0 := by
  intro n
  induction n with
  | zero =>
   intro k hk h6
   obtain rfl : k = 0 := by omega
   have R := (F 0 h6).R
   have rt := (W.rows 0 h6).1.root
   have e : rf b L y 0 0 = 0 := by unfold rf; rw [hb 0 h6]; rfl
   rw [e] at R
   have := R.lo; have := R.hi
   rw [Int.zero_mul, Int.sub_zero] at *
   apply Classical.byContradiction; intro c
   rcases (show y 0 ≤ -1 ∨ 1 ≤ y 0 by omega) with h | h
   ·have := Int.mul_le_mul_of_nonneg_right h (show 0 ≤ L 0 0 by omega); omega
   ·have := Int.mul_le_mul_of_nonneg_right h (show 0 ≤ L 0 0 by omega); omega
  | succ n ih =>
   intro k hk h6
   by_cases c : k ≤ n
   ·exact ih k c h6
   have R := (F k h6).R
   have rt := (W.rows k h6).1.root
   have e : rf b L y k k = 0 := by
    unfold rf
    rw [hb k h6, sm_zero fun t ht => ?_]
    ·rfl
    ·unfold qf; rw [ih t (by omega) (by omega)]; rw [mul_Z (W.ub k t)]
   rw [e] at R
   have := R.lo; have := R.hi
   rw [Int.zero_mul, Int.sub_zero] at *
   apply Classical.byContradiction; intro c
   rcases (show y k ≤ -1 ∨ 1 ≤ y k by omega) with h | h
   ·have := Int.mul_le_mul_of_nonneg_right h (show 0 ≤ L k k by omega); omega
   ·have := Int.mul_le_mul_of_nonneg_right h (show 0 ≤ L k k by omega); omega
 exact fun k hk => h k k (Nat.le_refl _) hk
theorem bx_zero {y : Nat → Int} {L : Nat → Nat → Int} {x : Nat → Int} {m : Nat → Nat → Int} (W : Wh m L) (hy : ∀ i, i < 6 → y i = 0) (B : ∀ k, k < 6 → Bx y L x k) : ∀ k, k < 6 → x k = 0 := by
 have h : ∀ n k, 5 - n ≤ k → k < 6 → x k = 0 := by
  intro n
  induction n with
  | zero =>
   intro k hk h6
   obtain rfl : k = 5 := by omega
   have R := (B 5 h6).R
   have rt := (W.rows 5 h6).1.root
   have e : sb y L x 5 (5 - 5) = 0 := by unfold sb; rw [hy 5 h6]; rfl
   rw [e] at R
   have := R.lo; have := R.hi
   rw [Int.zero_mul, Int.sub_zero] at *
   apply Classical.byContradiction; intro c
   rcases (show x 5 ≤ -1 ∨ 1 ≤ x 5 by omega) with h | h
   ·have := Int.mul_le_mul_of_nonneg_right h (show 0 ≤ L 5 5 by omega); omega
   ·have := Int.mul_le_mul_of_nonneg_right h (show 0 ≤ L 5 5 by omega); omega
  | succ n ih =>
   intro k hk h6
   by_cases c : 5 - n ≤ k
   ·exact ih k c h6
   have R := (B k h6).R
   have rt := (W.rows k h6).1.root
   have e : sb y L x k (5 - k) = 0 := by
    unfold sb
    rw [hy k h6, sm_zero fun t ht => ?_]
    ·rfl
    ·unfold qb; rw [ih (k + 1 + t) (by omega) (by omega)]; rw [mul_Z (W.ub _ _)]
   rw [e] at R
   have := R.lo; have := R.hi
   rw [Int.zero_mul, Int.sub_zero] at *
   apply Classical.byContradiction; intro c
   rcases (show x k ≤ -1 ∨ 1 ≤ x k by omega) with h | h
   ·have := Int.mul_le_mul_of_nonneg_right h (show 0 ≤ L k k by omega); omega
   ·have := Int.mul_le_mul_of_nonneg_right h (show 0 ≤ L k k by omega); omega
 exact fun k hk => h 5 k (by omega) hk
theorem solve_zero {m : Nat → Int} {g b : Nat → Int} {L : Nat → Nat → Int} {lam : Rat} (H : PD (mt m) lam) (hl : 6 / 100000 ≤ lam) (W : Wh (mt m) L) (G : Rel g L) (hb : ∀ i, i < 6 → b i = 0) : ∃ x : Nat → Int, mSolveS false g b 6 = (x, false) ∧ ∀ i, i < 6 → x i = 0 := by
 have hb' : ∀ i, i < 6 → Ab (b i) 1099511627776 := fun i hi => by rw [hb i hi]; exact ⟨by decide, by decide⟩
 obtain ⟨y, ey, F⟩ := fwd_pd H hl W hb' (Nat.le_refl 6)
 obtain ⟨x, ex, B⟩ := bwd_pd H hl W (fun i hi => (F i hi).ub) (Nat.le_refl 6)
 refine ⟨x, ?_, bx_zero W (fx_zero W hb F) (fun k hk => B k (by omega) hk)⟩
 unfold mSolveS mforwardS
 dsimp only
 rw [fwd_k G false 6 (Nat.le_refl 6), ey]
 dsimp only
 rw [bwd_k G (Nat.le_refl 6) (y, false) false 6 (Nat.le_refl 6), ex]
 rfl
end Go.Proofs.Ytooehgijllihdaa.Ff
namespace Go.Proofs.Ytooehgijllihdaa.Ff
open Go.RowKit
def s6 (S : Nat → Int) (r s : Nat) : Rat := qr (mt S r s)
def kb (K : Nat → Nat → Rat) (a : R3) (j : Nat) : Rat := a.x * K 0 j + a.y * K 1 j + a.z * K 2 j
def kb1 (K : Nat → Nat → Rat) (a : R3) : R3 := ⟨kb K a 0, kb K a 1, kb K a 2⟩
def kb2 (K : Nat → Nat → Rat) (a : R3) : R3 := ⟨kb K a 3, kb K a 4, kb K a 5⟩
theorem b6_kb (K : Nat → Nat → Rat) (a : R3) : ∀ j, j < 6 → b6 (kb1 K a) (kb2 K a) j = kb K a j := fun j hj => by
 rcases (show j = 0 ∨ j = 1 ∨ j = 2 ∨ j = 3 ∨ j = 4 ∨ j = 5 by omega) with rfl | rfl | rfl | rfl | rfl | rfl <;> rfl
def cR (C : Nat → Int) (i j : Nat) : Rat := qr (C (i * 6 + j))
def lft (C S : Nat → Int) (K : Nat → Nat → Rat) (i j : Nat) : Rat := rowm (s6 S) 6 (K i) j - cR C i j
theorem rows_left (g C S : Nat → Int) (K : Nat → Nat → Rat) (a : R3) : ∀ j, j < 6 → rowm (m9 g C S) 9 (w9 a (kb1 K a) (kb2 K a)) (j + 3) = -(a.x * lft C S K 0 j + a.y * lft C S K 1 j + a.z * lft C S K 2 j) := fun j hj => by
 unfold rowm
 rw [sr_nine]
 have e1 : sr (fun s => m9 g C S (j + 3) s * w9 a (kb1 K a) (kb2 K a) s) 3 = cR C 0 j * a.x + cR C 1 j * a.y + cR C 2 j * a.z := by
  have h : ∀ s, s < 3 → m9 g C S (j + 3) s = cR C s j := fun s hs => by unfold m9 cR; rw [if_neg (by omega), if_pos hs, Nat.add_sub_cancel]
  simp only [sr]
  rw [h 0 (by omega), h 1 (by omega), h 2 (by omega)]
  show 0 + cR C 0 j * a.x + cR C 1 j * a.y + cR C 2 j * a.z = _
  grind
 have e2 : sr (fun l => m9 g C S (j + 3) (l + 3) * w9 a (kb1 K a) (kb2 K a) (l + 3)) 6 = -(a.x * rowm (s6 S) 6 (K 0) j + a.y * rowm (s6 S) 6 (K 1) j + a.z * rowm (s6 S) 6 (K 2) j) := by
  have h : ∀ l, l < 6 → m9 g C S (j + 3) (l + 3) * w9 a (kb1 K a) (kb2 K a) (l + 3) = (-a.x) * (s6 S j l * K 0 l) + ((-a.y) * (s6 S j l * K 1 l) + (-a.z) * (s6 S j l * K 2 l)) := fun l hl => by
   have m : m9 g C S (j + 3) (l + 3) = s6 S j l := by unfold m9 s6 mt; rw [if_neg (by omega), if_neg (by omega), Nat.add_sub_cancel, Nat.add_sub_cancel]
   rw [m, w9_b6 _ _ _ l hl, b6_kb K a l hl]
   unfold kb; grind
  rw [sr_eq h, sr_add, sr_add, sr_mul, sr_mul, sr_mul]
  unfold rowm; grind
 rw [e1, e2]
 unfold lft
 grind
def nxt (g C : Nat → Int) (K : Nat → Nat → Rat) (a : R3) : Rat := fA g a - sr (fun j => kb K a j * (a.x * cR C 0 j + a.y * cR C 1 j + a.z * cR C 2 j)) 6
theorem quad_nxt (g C S : Nat → Int) (K : Nat → Nat → Rat) (a : R3) : quad (m9 g C S) 9 (w9 a (kb1 K a) (kb2 K a)) = nxt g C K a + sr (fun j => kb K a j * (a.x * lft C S K 0 j + a.y * lft C S K 1 j + a.z * lft C S K 2 j)) 6 := by
 rw [quad_solved (r := fun j => a.x * lft C S K 0 j + a.y * lft C S K 1 j + a.z * lft C S K 2 j) (rows_left g C S K a)]
 have e : sr (fun j => b6 (kb1 K a) (kb2 K a) j * (a.x * lft C S K 0 j + a.y * lft C S K 1 j + a.z * lft C S K 2 j)) 6 = sr (fun j => kb K a j * (a.x * lft C S K 0 j + a.y * lft C S K 1 j + a.z * lft C S K 2 j)) 6 := sr_eq fun j hj => by rw [b6_kb K a j hj]
 rw [e]
 have rw3 : ∀ i, i < 3 → rowm (m9 g C S) 9 (w9 a (kb1 K a) (kb2 K a)) i = (qr (g (7 + (i * 6 + 0))) * a.x + qr (g (7 + (i * 6 + 1))) * a.y + qr (g (7 + (i * 6 + 2))) * a.z) - sr (fun j => kb K a j * cR C i j) 6 := fun i hi => by
  unfold rowm
  rw [sr_nine]
  have e1 : sr (fun s => m9 g C S i s * w9 a (kb1 K a) (kb2 K a) s) 3 = qr (g (7 + (i * 6 + 0))) * a.x + qr (g (7 + (i * 6 + 1))) * a.y + qr (g (7 + (i * 6 + 2))) * a.z := by
   have h : ∀ s, s < 3 → m9 g C S i s = qr (g (7 + (i * 6 + s))) := fun s hs => by unfold m9; rw [if_pos hi, if_pos hs]
   simp only [sr]
   rw [h 0 (by omega), h 1 (by omega), h 2 (by omega)]
   show 0 + qr (g (7 + (i * 6 + 0))) * a.x + qr (g (7 + (i * 6 + 1))) * a.y + qr (g (7 + (i * 6 + 2))) * a.z = _
   grind
  have e2 : sr (fun l => m9 g C S i (l + 3) * w9 a (kb1 K a) (kb2 K a) (l + 3)) 6 = (-1) * sr (fun j => kb K a j * cR C i j) 6 := by
   rw [← sr_mul]
   exact sr_eq fun l hl => by
    have m : m9 g C S i (l + 3) = cR C i l := by unfold m9 cR; rw [if_pos hi, if_neg (by omega), Nat.add_sub_cancel]
    rw [m, w9_b6 _ _ _ l hl, b6_kb K a l hl]; grind
  rw [e1, e2]; grind
 have t3 : sr (fun i => w9 a (kb1 K a) (kb2 K a) i * rowm (m9 g C S) 9 (w9 a (kb1 K a) (kb2 K a)) i) 3 = nxt g C K a := by
  simp only [sr]
  rw [rw3 0 (by omega), rw3 1 (by omega), rw3 2 (by omega)]
  have s : sr (fun j => kb K a j * (a.x * cR C 0 j + a.y * cR C 1 j + a.z * cR C 2 j)) 6 = a.x * sr (fun j => kb K a j * cR C 0 j) 6 + a.y * sr (fun j => kb K a j * cR C 1 j) 6 + a.z * sr (fun j => kb K a j * cR C 2 j) 6 := by
   rw [← sr_mul, ← sr_mul, ← sr_mul, ← sr_add, ← sr_add]
   exact sr_eq fun j _ => by grind
  unfold nxt
  rw [s]
  unfold fA
  show 0 + a.x * _ + a.y * _ + a.z * _ = _
  grind
 rw [t3]
theorem nrm_kb (K : Nat → Nat → Rat) (a : R3) : nrm 6 (fun j => kb K a j) = dt (kb1 K a) (kb1 K a) + dt (kb2 K a) (kb2 K a) := by
 unfold nrm kb1 kb2; simp only [sr, dt]; grind
end Go.Proofs.Ytooehgijllihdaa.Ff
namespace Go.Proofs.Ytooehgijllihdaa.Ff
open Go.RowKit
theorem nn_ge (b1 b2 : R3) : 1 / 16384 * (dt b1 b1 + dt b2 b2) ≤ nn (1 / 16384) (1 / 4096) b1 b2 := by
 have := dt_nn b1; have := dt_nn b2
 unfold nn; grind
theorem both_nn {R1 R2 r : Rat} (P Q S : Vw) (a b1 b2 : R3) (r0 : 0 ≤ r) : nn R1 R2 b1 b2 ≤ bothJ R1 R2 P Q S r a b1 b2 := by
 have e := evn_nn P Q S b1 b2
 have s1 := sq_nn (dt a P.p - P.w b1 b2); have s2 := sq_nn (dt a Q.p - Q.w b1 b2); have s3 := sq_nn (dt a S.p - S.w b1 b2)
 unfold bothJ oddJ
 grind
theorem quad_ge {g x vw z d S C : Nat → Int} {v1 v2 : R3} (P : Pts g x) (V : Vws x vw v1 v2) (M : Mns g x vw z d S C) (a b1 b2 : R3) : 1 / 16384 * (dt b1 b1 + dt b2 b2) - 81 / 1099511627776 * (dt a a + dt b1 b1 + dt b2 b2) ≤ quad (m9 g C S) 9 (w9 a b1 b2) := by
 obtain ⟨r, r0, _, n⟩ := nine_both (thirteen_x P V M) (show (0 : Rat) ≤ 9 / 1099511627776 by decide +kernel) M.near a b1 b2
 have l := n.lo
 have h1 := both_nn (R1 := 1 / 16384) (R2 := 1 / 4096) (vwOf (X9 x d) 1) (vwOf (X9 x d) 2) (vwOf (X9 x d) 3) a b1 b2 r0
 have h2 := nn_ge b1 b2
 grind
theorem k_small {g x vw z d S C : Nat → Int} {v1 v2 : R3} {up lo : Rat} (H : St g up lo) (hu : up ≤ 1 / 50) (hl : 0 ≤ lo) (P : Pts g x) (V : Vws x vw v1 v2) (M : Mns g x vw z d S C) (L : Small x d) (K : Nat → Nat → Rat) (hK : ∀ i, i < 3 → ∀ j, j < 6 → lft C S K i j ≤ 4620021 / 1099511627776 ∧ -(4620021 / 1099511627776) ≤ lft C S K i j) :
  ∀ i, i < 3 → nrm 6 (K i) ≤ 340 := by
 have pl := H.place hl
 have D := s_pd M L
 have key : ∀ (e : R3) (i : Nat), i < 3 → dt e e = 1 → fA g e ≤ up → (∀ j, kb K e j = K i j) → (∀ j, e.x * lft C S K 0 j + e.y * lft C S K 1 j + e.z * lft C S K 2 j = lft C S K i j) → (∀ j, e.x * cR C 0 j + e.y * cR C 1 j + e.z * cR C 2 j = cR C i j) → nrm 6 (K i) ≤ 340 := fun e i hi e1 ef ek el ec => by
  have q := quad_nxt g C S K e
  have ge := quad_ge P V M e (kb1 K e) (kb2 K e)
  have nk := nrm_kb K e
  have nk2 : nrm 6 (fun j => kb K e j) = nrm 6 (K i) := by unfold nrm; exact sr_eq fun j _ => by show kb K e j * kb K e j = _; rw [ek j]
  rw [nk2] at nk
  rw [q] at ge
  have s1 : sr (fun j => kb K e j * (e.x * lft C S K 0 j + e.y * lft C S K 1 j + e.z * lft C S K 2 j)) 6 = sr (fun j => K i j * lft C S K i j) 6 := sr_eq fun j _ => by rw [ek j, el j]
  have s2 : sr (fun j => kb K e j * (e.x * cR C 0 j + e.y * cR C 1 j + e.z * cR C 2 j)) 6 = sr (fun j => K i j * cR C i j) 6 := sr_eq fun j _ => by rw [ek j, ec j]
  have s3 : sr (fun j => K i j * cR C i j) 6 = quad (s6 S) 6 (K i) - sr (fun j => K i j * lft C S K i j) 6 := by
   have : sr (fun j => K i j * cR C i j) 6 + sr (fun j => K i j * lft C S K i j) 6 = quad (s6 S) 6 (K i) := by
    rw [← sr_add]
    unfold quad
    exact sr_eq fun j _ => by unfold lft rowm; grind
   grind
  have pos : 0 ≤ quad (s6 S) 6 (K i) := by
   have l := D.low (K i)
   have n0 := nrm_nn 6 (K i)
   have : quad (fun r s => qr (mt S r s)) 6 (K i) = quad (s6 S) 6 (K i) := rfl
   rw [this] at l
   grind
  have sm := dot_small (n := 6) (K i) (lft C S K i) (e := 1 / 1000000) (f := 1000000) (by decide +kernel) (by decide +kernel)
  have nl : nrm 6 (lft C S K i) ≤ 6 * (4620021 / 1099511627776 * (4620021 / 1099511627776)) := by
   have : nrm 6 (lft C S K i) ≤ sr (fun _ => 4620021 / 1099511627776 * (4620021 / 1099511627776)) 6 := sr_le fun j hj => abs_sq (hK i hi j hj).1 (hK i hi j hj).2
   simp only [sr] at this
   grind
  have n0 := nrm_nn 6 (K i)
  unfold nxt at ge
  rw [s1, s2, s3, e1] at ge
  have k16 : dt (kb1 K e) (kb1 K e) + dt (kb2 K e) (kb2 K e) = nrm 6 (K i) := nk.symm
  have ge2 : 1 / 16384 * nrm 6 (K i) - 81 / 1099511627776 * (1 + nrm 6 (K i)) ≤ fA g e - (quad (s6 S) 6 (K i) - sr (fun j => K i j * lft C S K i j) 6) + sr (fun j => K i j * lft C S K i j) 6 := by
   rw [← k16]
   grind
  generalize sr (fun j => K i j * lft C S K i j) 6 = Z at *
  generalize nrm 6 (K i) = N at *
  grind
 have fx : fA g ⟨1, 0, 0⟩ = qr (g 7) := by unfold fA; grind
 have fy : fA g ⟨0, 1, 0⟩ = qr (g 14) := by unfold fA; grind
 have fz : fA g ⟨0, 0, 1⟩ = qr (g 21) := by unfold fA; grind
 intro i hi
 rcases (show i = 0 ∨ i = 1 ∨ i = 2 by omega) with rfl | rfl | rfl
 ·exact key ⟨1, 0, 0⟩ 0 hi (by simp only [dt]; grind) (by rw [fx]; exact pl.1.1) (fun j => by unfold kb; grind) (fun j => by grind) (fun j => by grind)
 ·exact key ⟨0, 1, 0⟩ 1 hi (by simp only [dt]; grind) (by rw [fy]; exact pl.2.1.1) (fun j => by unfold kb; grind) (fun j => by grind) (fun j => by grind)
 ·exact key ⟨0, 0, 1⟩ 2 hi (by simp only [dt]; grind) (by rw [fz]; exact pl.2.2.1.1) (fun j => by unfold kb; grind) (fun j => by grind) (fun j => by grind)
theorem left_sq {C S : Nat → Int} {K : Nat → Nat → Rat} {e : Rat} (h : ∀ i, i < 3 → ∀ j, j < 6 → lft C S K i j ≤ e ∧ -e ≤ lft C S K i j) (a : R3) : nrm 6 (fun j => a.x * lft C S K 0 j + a.y * lft C S K 1 j + a.z * lft C S K 2 j) ≤ 18 * (e * e) * dt a a := by
 have k : ∀ j, j < 6 → (a.x * lft C S K 0 j + a.y * lft C S K 1 j + a.z * lft C S K 2 j) * (a.x * lft C S K 0 j + a.y * lft C S K 1 j + a.z * lft C S K 2 j) ≤ 3 * (e * e) * dt a a := fun j hj => by
  have cs := cauchy a ⟨lft C S K 0 j, lft C S K 1 j, lft C S K 2 j⟩
  have l0 := abs_sq (h 0 (by omega) j hj).1 (h 0 (by omega) j hj).2
  have l1 := abs_sq (h 1 (by omega) j hj).1 (h 1 (by omega) j hj).2
  have l2 := abs_sq (h 2 (by omega) j hj).1 (h 2 (by omega) j hj).2
  have n := dt_nn a
  have m := mul_le_l (show dt (⟨lft C S K 0 j, lft C S K 1 j, lft C S K 2 j⟩ : R3) ⟨lft C S K 0 j, lft C S K 1 j, lft C S K 2 j⟩ ≤ 3 * (e * e) by simp only [dt]; grind) n
  have e1 : dt a ⟨lft C S K 0 j, lft C S K 1 j, lft C S K 2 j⟩ = a.x * lft C S K 0 j + a.y * lft C S K 1 j + a.z * lft C S K 2 j := by simp only [dt]
  rw [e1] at cs
  grind
 have s := sr_le k
 have c : sr (fun _ => 3 * (e * e) * dt a a) 6 = 18 * (e * e) * dt a a := by simp only [sr]; grind
 rw [c] at s
 exact s
theorem nxt_near {g C S : Nat → Int} {K : Nat → Nat → Rat} (h : ∀ i, i < 3 → ∀ j, j < 6 → lft C S K i j ≤ 819 / 1099511627776 ∧ -(819 / 1099511627776) ≤ lft C S K i j) (a : R3) :
  Nr (nxt g C K a) (quad (m9 g C S) 9 (w9 a (kb1 K a) (kb2 K a))) (1850 / 1099511627776 * (dt a a + dt (kb1 K a) (kb1 K a) + dt (kb2 K a) (kb2 K a))) := by
 have q := quad_nxt g C S K a
 have l := left_sq h a
 have s1 := dot_small (n := 6) (fun j => kb K a j) (fun j => a.x * lft C S K 0 j + a.y * lft C S K 1 j + a.z * lft C S K 2 j) (e := 3276 / 1099511627776) (f := 1099511627776 / 3276) (by decide +kernel) (by decide +kernel)
 have s2 := dot_small' (n := 6) (fun j => kb K a j) (fun j => a.x * lft C S K 0 j + a.y * lft C S K 1 j + a.z * lft C S K 2 j) (e := 3276 / 1099511627776) (f := 1099511627776 / 3276) (by decide +kernel) (by decide +kernel)
 rw [nrm_kb] at s1 s2
 have na := dt_nn a; have n1 := dt_nn (kb1 K a); have n2 := dt_nn (kb2 K a)
 generalize nrm 6 (fun j => a.x * lft C S K 0 j + a.y * lft C S K 1 j + a.z * lft C S K 2 j) = R at *
 generalize sr (fun j => kb K a j * (a.x * lft C S K 0 j + a.y * lft C S K 1 j + a.z * lft C S K 2 j)) 6 = Z at *
 rw [q]
 constructor <;> grind
theorem m9_sym {g x vw z d S C : Nat → Int} {up lo : Rat} (H : St g up lo) (M : Mns g x vw z d S C) : ∀ r s, r < 9 → s < 9 → m9 g C S r s = m9 g C S s r := fun r s hr hs => by
 obtain ⟨s1, s2, s3⟩ := H.sym
 unfold m9
 by_cases r3 : r < 3
 ·by_cases c3 : s < 3
  ·rw [if_pos r3, if_pos c3, if_pos c3, if_pos r3]
   rcases (show r = 0 ∨ r = 1 ∨ r = 2 by omega) with rfl | rfl | rfl <;> rcases (show s = 0 ∨ s = 1 ∨ s = 2 by omega) with rfl | rfl | rfl
   ·rfl
   ·exact congrArg qr s1.symm
   ·exact congrArg qr s2.symm
   ·exact congrArg qr s1
   ·rfl
   ·exact congrArg qr s3.symm
   ·exact congrArg qr s2
   ·exact congrArg qr s3
   ·rfl
  ·rw [if_pos r3, if_neg c3, if_neg c3, if_pos r3]
 ·by_cases c3 : s < 3
  ·rw [if_neg r3, if_pos c3, if_pos c3, if_neg r3]
  ·rw [if_neg r3, if_neg c3, if_neg c3, if_neg r3, M.sb (r - 3) (s - 3) (by omega) (by omega)]
theorem nxt_least {g x vw z d S C : Nat → Int} {v1 v2 : R3} {up lo : Rat} (H : St g up lo) (P : Pts g x) (V : Vws x vw v1 v2) (M : Mns g x vw z d S C) {K : Nat → Nat → Rat} (h : ∀ i, i < 3 → ∀ j, j < 6 → lft C S K i j ≤ 819 / 1099511627776 ∧ -(819 / 1099511627776) ≤ lft C S K i j) (a c1 c2 : R3) :
  quad (m9 g C S) 9 (w9 a (kb1 K a) (kb2 K a)) ≤ quad (m9 g C S) 9 (w9 a c1 c2) + 6600 / 1099511627776 * (dt a a + (dt (kb1 K a) (kb1 K a) + dt (kb2 K a) (kb2 K a)) + (dt c1 c1 + dt c2 c2)) := by
 have z0 : dt (⟨0, 0, 0⟩ : R3) ⟨0, 0, 0⟩ = 0 := by simp only [dt]; grind
 have ge := quad_ge P V M ⟨0, 0, 0⟩ (sb3 c1 (kb1 K a)) (sb3 c2 (kb2 K a))
 have m1 := dt_nn (sb3 c1 (kb1 K a)); have m2 := dt_nn (sb3 c2 (kb2 K a))
 have q := quad_least (m9_sym H M) (rows_left g C S K a) (c1 := c1) (c2 := c2) (by rw [z0] at ge; grind) (e := 3276 / 1099511627776) (f := 1099511627776 / 3276) (by decide +kernel) (by decide +kernel)
 have l := left_sq h a
 have t1 := sq_two_s c1 (kb1 K a); have t2 := sq_two_s c2 (kb2 K a)
 have na := dt_nn a; have n1 := dt_nn (kb1 K a); have n2 := dt_nn (kb2 K a); have n3 := dt_nn c1; have n4 := dt_nn c2
 generalize nrm 6 (fun j => a.x * lft C S K 0 j + a.y * lft C S K 1 j + a.z * lft C S K 2 j) = R at *
 grind
end Go.Proofs.Ytooehgijllihdaa.Ff
