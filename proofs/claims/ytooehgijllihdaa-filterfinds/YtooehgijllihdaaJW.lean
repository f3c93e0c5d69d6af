/- A part. -/
import Derived.Test.YtooehgijllihdaaJA
import Derived.Test.YtooehgijllihdaaJS
import Derived.Test.YtooehgijllihdaaJB
namespace Go.Proofs.Ytooehgijllihdaa
open Go.RowKit
theorem pr_bd {L : Nat → Nat → Int} {a b k : Nat} (ha : Ab (L a k) 1099511627776) (hb : Ab (L b k) 1099511627776) : Ab (pr L a b k) 1099511627777 := prod_bd ha hb (mul_is ha hb).2 (by decide)
structure Agree (L L' : Nat → Nat → Int) (i j : Nat) : Prop where
 rows : ∀ a b, a < i → L' a b = L a b
 row : ∀ b, b < j → L' i b = L i b
theorem Agree.pr {L L' : Nat → Nat → Int} {i j a b k : Nat} (A : Agree L L' i j) (ha : a < i ∨ (a = i ∧ k < j)) (hb : b < i ∨ (b = i ∧ k < j)) : pr L' a b k = pr L a b k := by
 have e1 : L' a k = L a k := by
  rcases ha with h | ⟨rfl, h⟩
  ·exact A.rows a k h
  ·exact A.row k h
 have e2 : L' b k = L b k := by
  rcases hb with h | ⟨rfl, h⟩
  ·exact A.rows b k h
  ·exact A.row k h
 show (mulS false (L' a k) (L' b k)).1 = (mulS false (L a k) (L b k)).1
 rw [e1, e2]
theorem Agree.am {m L L' : Nat → Nat → Int} {i j k a b : Nat} (A : Agree L L' i j) (ha : a < i ∨ (a = i ∧ k ≤ j)) (hb : b < i ∨ (b = i ∧ k ≤ j)) : Am m L' k a b = Am m L k a b := by
 unfold Am
 rw [sm_eq fun t ht => A.pr (by omega) (by omega)]
theorem Agree.lft {m L L' : Nat → Nat → Int} {i j a k : Nat} (A : Agree L L' i j) (hk : k < i) (ha : a < i ∨ (a = i ∧ k < j)) (P : Lft m L a k) : Lft m L' a k := by
 have e := A.am (m := m) (k := k) (a := a) (b := k) (by omega) (Or.inl hk)
 have e1 := A.am (m := m) (k := k) (a := k) (b := k) (Or.inl hk) (Or.inl hk)
 have e2 := A.rows k k hk
 have e3 : L' a k = L a k := by
  rcases ha with h | ⟨rfl, h⟩
  ·exact A.rows a k h
  ·exact A.row k h
 exact ⟨by rw [e, e2, e3]; exact P.dv, by rw [e, e2, e3]; exact P.R, by rw [e, e1]; exact P.bd, by rw [e3]; exact P.ub⟩
theorem agree_set (L : Nat → Nat → Int) (i j : Nat) (v : Int) : Agree L (setM L i j v) i j :=
 ⟨fun a b h => by unfold setM; rw [if_neg (by omega)], fun b h => by unfold setM; rw [if_neg (by omega)]⟩
theorem set_at (L : Nat → Nat → Int) (i j : Nat) (v : Int) : setM L i j v i j = v := by unfold setM; rw [if_pos ⟨rfl, rfl⟩]
structure Whole (m L : Nat → Nat → Int) (n : Nat) : Prop where
 rows : Rows6 m L n
 zero : ∀ a b, (n ≤ a ∨ a < b) → L a b = 0
theorem Whole.ub {m L : Nat → Nat → Int} {n : Nat} (W : Whole m L n) (a k : Nat) : Ab (L a k) 1099511627776 := by
 by_cases c : a < n
 ·rcases Nat.lt_trichotomy k a with h | rfl | h
  ·exact ((W.rows a c).2 k h).ub
  ·have := (W.rows k c).1.root
   exact ⟨by omega, by omega⟩
  ·rw [W.zero a k (Or.inr h)]; exact ⟨by decide, by decide⟩
 ·rw [W.zero a k (Or.inl (by omega))]; exact ⟨by decide, by decide⟩
theorem mul_zero_is {x : Int} (h : Ab x 1099511627776) : mulS false x 0 = (0, false) := by
 obtain ⟨p, e, r⟩ := mul_near h (show Ab 0 1099511627776 from ⟨by decide, by decide⟩) (by decide) (by decide)
 rw [e]
 have := r.lo; have := r.hi
 rw [Int.mul_zero] at *
 rw [show p = 0 by omega]
end Go.Proofs.Ytooehgijllihdaa
namespace Go.Proofs.Ytooehgijllihdaa
open Go.RowKit
def setF (f : Nat → Int) (j : Nat) (v : Int) : Nat → Int := fun k => if k = j then v else f k
abbrev RB := (Nat → Int) × Bool
def fwdS (l : Nat → Nat → Int) (b : Nat → Int) (bad : Bool) : Nat → RB
 | 0 => (fun _ => 0, bad)
 | i + 1 => let y := fwdS l b bad i; let s := subsS y.2 (b i) (l i) y.1 i; let d := divS s.2 s.1 (l i i); (setF y.1 i d.1, d.2)
def bwdS (l : Nat → Nat → Int) (y : Nat → Int) (n : Nat) (bad : Bool) : Nat → RB
 | 0 => (fun _ => 0, bad)
 | t + 1 => let x := bwdS l y n bad t; let s := subsS x.2 (y (n - 1 - t)) (fun c => l (n - 1 - t + 1 + c) (n - 1 - t)) (fun c => x.1 (n - 1 - t + 1 + c)) t; let d := divS s.2 s.1 (l (n - 1 - t) (n - 1 - t)); (setF x.1 (n - 1 - t) d.1, d.2)
theorem mul_big {a b : Int} (ha : Ab a 1099511627776) (hb : Ab b 576460752303423488) : ∃ m, mulS false a b = (m, false) ∧ MulR m a b := by
 obtain ⟨m, e, h1, h2, _⟩ := mulS_near a b (ha.numB (by decide)) (hb.numB (by decide)) (by
  have h1 := sz_le ⟨ha.lo, ha.hi⟩
  have h2 := sz_le ⟨hb.lo, hb.hi⟩
  have := Int.mul_le_mul h1 h2 (le_sz b).2.2 (by decide)
  omega)
 exact ⟨m, e, by omega, by omega⟩
theorem sm_ab {f : Nat → Int} {K : Int} {n : Nat} (h : ∀ k, k < n → Ab (f k) K) : Ab (sm f n) (n * K) := by
 have a := sm_le (f := fun _ => -K) (g := f) (n := n) (fun k hk => (h k hk).lo)
 have b := sm_le (f := f) (g := fun _ => K) (n := n) (fun k hk => (h k hk).hi)
 rw [sm_const] at a b
 exact ⟨by rw [Int.mul_neg] at a; omega, b⟩
end Go.Proofs.Ytooehgijllihdaa
namespace Go.Proofs.Ytooehgijllihdaa
open Go.RowKit
def qf (L : Nat → Nat → Int) (y : Nat → Int) (i k : Nat) : Int := (mulS false (L i k) (y k)).1
def rf (b : Nat → Int) (L : Nat → Nat → Int) (y : Nat → Int) (t i : Nat) : Int := b i - sm (qf L y i) t
theorem rf_succ (b : Nat → Int) (L : Nat → Nat → Int) (y : Nat → Int) (t i : Nat) : rf b L y (t + 1) i = rf b L y t i - qf L y i t := by
 unfold rf; show b i - (sm (qf L y i) t + qf L y i t) = _; omega
theorem qf_is {L : Nat → Nat → Int} {y : Nat → Int} {i k : Nat} (h : Ab (L i k) 1099511627776) (hy : Ab (y k) 576460752303423488) : mulS false (L i k) (y k) = (qf L y i k, false) ∧ MulR (qf L y i k) (L i k) (y k) := by
 obtain ⟨p, e, r⟩ := mul_big h hy
 unfold qf
 rw [e]
 exact ⟨rfl, r⟩
theorem rf_same {b : Nat → Int} {L : Nat → Nat → Int} {y y' : Nat → Int} {t i : Nat} (h : ∀ k, k < t → y' k = y k) : rf b L y' t i = rf b L y t i := by
 unfold rf
 rw [sm_eq fun k hk => (by unfold qf; rw [h k hk] : qf L y' i k = qf L y i k)]
end Go.Proofs.Ytooehgijllihdaa
namespace Go.Proofs.Ytooehgijllihdaa
open Go.RowKit
def qb (L : Nat → Nat → Int) (x : Nat → Int) (i k : Nat) : Int := (mulS false (L k i) (x k)).1
def sb (y : Nat → Int) (L : Nat → Nat → Int) (x : Nat → Int) (i c : Nat) : Int := y i - sm (fun t => qb L x i (i + 1 + t)) c
theorem qb_is {L : Nat → Nat → Int} {x : Nat → Int} {i k : Nat} (h : Ab (L k i) 1099511627776) (hx : Ab (x k) 576460752303423488) : mulS false (L k i) (x k) = (qb L x i k, false) ∧ MulR (qb L x i k) (L k i) (x k) := by
 obtain ⟨p, e, r⟩ := mul_big h hx
 unfold qb
 rw [e]
 exact ⟨rfl, r⟩
theorem sb_same {y : Nat → Int} {L : Nat → Nat → Int} {x x' : Nat → Int} {i c : Nat} (h : ∀ k, i < k → x' k = x k) : sb y L x' i c = sb y L x i c := by
 unfold sb
 rw [sm_eq fun t _ => (by unfold qb; rw [h _ (by omega)] : qb L x' i (i + 1 + t) = qb L x i (i + 1 + t))]
theorem sm_two (c : Int) (f : Nat → Int) (n : Nat) : sm (fun k => f k * c) n = sm f n * c := by
 rw [sm_eq (g := fun k => c * f k) fun k _ => Int.mul_comm _ _, sm_mul, Int.mul_comm]
theorem sm_near {f g : Nat → Int} {K : Int} {n : Nat} (h : ∀ k, k < n → Ab (f k - g k) K) : Ab (sm f n - sm g n) (n * K) := by
 have a := sm_ab (f := fun k => f k + -1 * g k) (n := n) (K := K) (fun k hk => by have := h k hk; rw [show f k + -1 * g k = f k - g k by omega]; exact this)
 rw [sm_add, sm_mul] at a
 rw [show sm f n - sm g n = sm f n + -1 * sm g n by omega]
 exact a
end Go.Proofs.Ytooehgijllihdaa
namespace Go.Proofs.Ytooehgijllihdaa
open Go.RowKit
theorem norm_near {t0 t1 t2 K : Int} (h0 : Ab t0 K) (h1 : Ab t1 K) (h2 : Ab t2 K) (hK : K ≤ 1152921504606846976) :
  ∃ N, vNormS false (t0, t1, t2) = (N, false) ∧ 0 ≤ N ∧ N * N ≤ t0 * t0 + t1 * t1 + t2 * t2 ∧ t0 * t0 + t1 * t1 + t2 * t2 < (N + 1) * (N + 1) := by
 have q0 := (h0.le hK).mul (h0.le hK)
 have q1 := (h1.le hK).mul (h1.le hK)
 have q2 := (h2.le hK).mul (h2.le hK)
 have := q0.hi; have := q1.hi; have := q2.hi
 have s0 := sq_nonneg t0
 have s1 := sq_nonneg t1
 have s2 := sq_nonneg t2
 have s := isq_spec (t0 * t0 + t1 * t1 + t2 * t2) (by omega) (by omega)
 refine ⟨isq (t0 * t0 + t1 * t1 + t2 * t2), normS_make (h0.numB (by omega)) (h1.numB (by omega)) (h2.numB (by omega)) s.1 ?_ s.2.1 s.2.2, s.1, s.2.1, s.2.2⟩
 by_cases k : isq (t0 * t0 + t1 * t1 + t2 * t2) ≤ 4611686018427387904
 ·exact k
 ·have := sq_mono (by omega : (0 : Int) ≤ 4611686018427387905) (by omega : 4611686018427387905 ≤ isq (t0 * t0 + t1 * t1 + t2 * t2))
  omega
theorem turn_bd {a0 a1 a2 s v0 v1 v2 r : Int} (U0 : Ab a0 1099511627776) (U1 : Ab a1 1099511627776) (U2 : Ab a2 1099511627776) (U3 : Ab s 1099511627776) (hv0 : Ab v0 1099511627776) (hv1 : Ab v1 1099511627776) (hv2 : Ab v2 1099511627776)
  (e : Ab (1208925819614629174706176 * r - tnc a0 a1 a2 s v0 v1 v2) 9671406556917033397649408) : Ab r 15393162788864 := by
 have b := tnc_bd U0 U1 U2 U3 hv0 hv1 hv2
 have := b.lo; have := b.hi; have := e.lo; have := e.hi
 constructor <;> omega
end Go.Proofs.Ytooehgijllihdaa
namespace Go.Proofs.Ytooehgijllihdaa
open Go.RowKit
theorem dot_near {a0 a1 a2 v0 v1 v2 : Int} (h0 : Ab a0 1099511627776) (h1 : Ab a1 1099511627776) (h2 : Ab a2 1099511627776) (k0 : Ab v0 1099511627776) (k1 : Ab v1 1099511627776) (k2 : Ab v2 1099511627776) :
  ∃ d, vDotS false (a0, a1, a2) (v0, v1, v2) = (d, false) ∧ Ab d 3298534883331 ∧ Ab (d * 1099511627776 - (a0 * v0 + a1 * v1 + a2 * v2)) 1649267441664 := by
 obtain ⟨m1, e1, n1⟩ := mul_near h0 k0 (by decide) (by decide)
 obtain ⟨m2, e2, n2⟩ := mul_near h1 k1 (by decide) (by decide)
 obtain ⟨m3, e3, n3⟩ := mul_near h2 k2 (by decide) (by decide)
 have b1 := prod_bd h0 k0 n1 (B := 1099511627777) (by decide)
 have b2 := prod_bd h1 k1 n2 (B := 1099511627777) (by decide)
 have b3 := prod_bd h2 k2 n3 (B := 1099511627777) (by decide)
 have s1 := add_near b1 b2 (by decide) (by decide) (by decide)
 have s2 := add_near (b1.add b2) b3 (by decide) (by decide) (by decide)
 refine ⟨m1 + m2 + m3, ?_, ((b1.add b2).add b3).le (by decide), ?_⟩
 ·unfold vDotS
  simp only [e1, e2, e3, s1, s2]
 ·have := n1.lo; have := n1.hi; have := n2.lo; have := n2.hi; have := n3.lo; have := n3.hi
  constructor <;> omega
theorem mul4_near {a0 a1 a2 s b0 b1 b2 t : Int} (ha0 : Ab a0 1099511627776) (ha1 : Ab a1 1099511627776) (ha2 : Ab a2 1099511627776) (hs : Ab s 1099511627776) (hb0 : Ab b0 1099511627776) (hb1 : Ab b1 1099511627776) (hb2 : Ab b2 1099511627776) (ht : Ab t 1099511627776) :
  ∃ c0 c1 c2 c3, qMulS false (a0, a1, a2, s) (b0, b1, b2, t) = ((c0, c1, c2, c3), false) ∧ Ab c0 5497558138880 ∧ Ab c1 5497558138880 ∧ Ab c2 5497558138880 ∧ Ab c3 5497558138880 ∧
   Ab (1099511627776 * c0 - (a0 * t + b0 * s + (b1 * a2 - b2 * a1))) 2199023255552 ∧ Ab (1099511627776 * c1 - (a1 * t + b1 * s + (b2 * a0 - b0 * a2))) 2199023255552 ∧
   Ab (1099511627776 * c2 - (a2 * t + b2 * s + (b0 * a1 - b1 * a0))) 2199023255552 ∧ Ab (1099511627776 * c3 - (s * t - (a0 * b0 + a1 * b1 + a2 * b2))) 2199023255552 := by
 obtain ⟨f0, ef0, nf0⟩ := mul_near ha0 ht (by decide) (by decide)
 obtain ⟨f1, ef1, nf1⟩ := mul_near ha1 ht (by decide) (by decide)
 obtain ⟨f2, ef2, nf2⟩ := mul_near ha2 ht (by decide) (by decide)
 have bf0 := prod_bd ha0 ht nf0 (B := 1099511627777) (by decide)
 have bf1 := prod_bd ha1 ht nf1 (B := 1099511627777) (by decide)
 have bf2 := prod_bd ha2 ht nf2 (B := 1099511627777) (by decide)
 have ef : vScaleS false (a0, a1, a2) t = ((f0, f1, f2), false) := by unfold vScaleS; simp only [ef0, ef1, ef2, soundS_no]
 obtain ⟨g0, eg0, ng0⟩ := mul_near hb0 hs (by decide) (by decide)
 obtain ⟨g1, eg1, ng1⟩ := mul_near hb1 hs (by decide) (by decide)
 obtain ⟨g2, eg2, ng2⟩ := mul_near hb2 hs (by decide) (by decide)
 have bg0 := prod_bd hb0 hs ng0 (B := 1099511627777) (by decide)
 have bg1 := prod_bd hb1 hs ng1 (B := 1099511627777) (by decide)
 have bg2 := prod_bd hb2 hs ng2 (B := 1099511627777) (by decide)
 have eg : vScaleS false (b0, b1, b2) s = ((g0, g1, g2), false) := by unfold vScaleS; simp only [eg0, eg1, eg2, soundS_no]
 have x0 := add_near bf0 bg0 (by decide) (by decide) (by decide)
 have x1 := add_near bf1 bg1 (by decide) (by decide) (by decide)
 have x2 := add_near bf2 bg2 (by decide) (by decide) (by decide)
 have ex : vAddS false (f0, f1, f2) (g0, g1, g2) = ((f0 + g0, f1 + g1, f2 + g2), false) := by unfold vAddS; simp only [x0, x1, x2, soundS_no]
 obtain ⟨h0, h1, h2, eh, bh0, bh1, bh2, nh0, nh1, nh2⟩ := cross_near (B := 1099511627777) hb0 hb1 hb2 ha0 ha1 ha2 (by decide) (by decide) (by decide) (by decide)
 have y0 := add_near (bf0.add bg0) bh0 (by decide) (by decide) (by decide)
 have y1 := add_near (bf1.add bg1) bh1 (by decide) (by decide) (by decide)
 have y2 := add_near (bf2.add bg2) bh2 (by decide) (by decide) (by decide)
 have ey : vAddS false (f0 + g0, f1 + g1, f2 + g2) (h0, h1, h2) = ((f0 + g0 + h0, f1 + g1 + h1, f2 + g2 + h2), false) := by unfold vAddS; simp only [y0, y1, y2, soundS_no]
 obtain ⟨m, em, nm⟩ := mul_near hs ht (by decide) (by decide)
 have bm := prod_bd hs ht nm (B := 1099511627777) (by decide)
 obtain ⟨d, ed, bd, nd⟩ := dot_near ha0 ha1 ha2 hb0 hb1 hb2
 have z := sub_near bm bd (by decide) (by decide) (by decide)
 refine ⟨f0 + g0 + h0, f1 + g1 + h1, f2 + g2 + h2, m - d, ?_, ((bf0.add bg0).add bh0).le (by decide), ((bf1.add bg1).add bh1).le (by decide), ((bf2.add bg2).add bh2).le (by decide), (bm.sub bd).le (by decide), ?_, ?_, ?_, ?_⟩
 ·unfold qMulS
  simp only [ef, eg, ex, eh, ey, em, ed, z, sound4S_no]
 ·have := nf0.lo; have := nf0.hi; have := ng0.lo; have := ng0.hi; have := nh0.lo; have := nh0.hi; constructor <;> omega
 ·have := nf1.lo; have := nf1.hi; have := ng1.lo; have := ng1.hi; have := nh1.lo; have := nh1.hi; constructor <;> omega
 ·have := nf2.lo; have := nf2.hi; have := ng2.lo; have := ng2.hi; have := nh2.lo; have := nh2.hi; constructor <;> omega
 ·have := nm.lo; have := nm.hi; have := nd.lo; have := nd.hi; constructor <;> omega
theorem one_behind (a0 a1 a2 s b0 b1 b2 t v0 v1 v2 : Int) :
  tnc a0 a1 a2 s (tnc b0 b1 b2 t v0 v1 v2) (tnc b1 b2 b0 t v1 v2 v0) (tnc b2 b0 b1 t v2 v0 v1) =
   1461501637330902918203684832716283019655932542976 * v0 + qfc (a0 * t + b0 * s + (b1 * a2 - b2 * a1)) (a1 * t + b1 * s + (b2 * a0 - b0 * a2)) (a2 * t + b2 * s + (b0 * a1 - b1 * a0)) (s * t - (a0 * b0 + a1 * b1 + a2 * b2)) v0 v1 v2
   + 1208925819614629174706176 * ((a0 * a0 + a1 * a1 + a2 * a2 + s * s - 1208925819614629174706176 + (b0 * b0 + b1 * b1 + b2 * b2 + t * t - 1208925819614629174706176)) * v0)
   - (a0 * a0 + a1 * a1 + a2 * a2 + s * s - 1208925819614629174706176) * tnc b0 b1 b2 t v0 v1 v2 - (b0 * b0 + b1 * b1 + b2 * b2 + t * t - 1208925819614629174706176) * tnc a0 a1 a2 s v0 v1 v2 := by
 unfold tnc qfc; grind
theorem qfc_add (p0 p1 p2 w g0 g1 g2 h v0 v1 v2 : Int) : qfc (p0 + g0) (p1 + g1) (p2 + g2) (w + h) v0 v1 v2 = qfc p0 p1 p2 w v0 v1 v2 +
  (2 * (p1 * (g0 * v1 - g1 * v0) + g1 * (p0 * v1 - p1 * v0) + g1 * (g0 * v1 - g1 * v0) - p2 * (g2 * v0 - g0 * v2) - g2 * (p2 * v0 - p0 * v2) - g2 * (g2 * v0 - g0 * v2)) - 2 * (w * (g1 * v2 - g2 * v1) + h * (p1 * v2 - p2 * v1) + h * (g1 * v2 - g2 * v1))) := by
 unfold qfc; grind
theorem qfc_mul (p0 p1 p2 w v0 v1 v2 : Int) : qfc (1099511627776 * p0) (1099511627776 * p1) (1099511627776 * p2) (1099511627776 * w) v0 v1 v2 = 1208925819614629174706176 * qfc p0 p1 p2 w v0 v1 v2 := by
 unfold qfc; grind
theorem Ab.of_add {x y r K : Int} (e : x = y + r) (h : Ab r K) : Ab (x - y) K := ⟨by have := h.lo; omega, by have := h.hi; omega⟩
theorem qfc_off {p0 p1 p2 w c0 c1 c2 c3 v0 v1 v2 : Int} (k0 : Ab p0 4835703278458516698824704) (k1 : Ab p1 4835703278458516698824704) (k2 : Ab p2 4835703278458516698824704) (kw : Ab w 4835703278458516698824704)
  (g0 : Ab (1099511627776 * c0 - p0) 2199023255552) (g1 : Ab (1099511627776 * c1 - p1) 2199023255552) (g2 : Ab (1099511627776 * c2 - p2) 2199023255552) (g3 : Ab (1099511627776 * c3 - w) 2199023255552)
  (hv0 : Ab v0 1099511627776) (hv1 : Ab v1 1099511627776) (hv2 : Ab v2 1099511627776) : Ab (1208925819614629174706176 * qfc c0 c1 c2 c3 v0 v1 v2 - qfc p0 p1 p2 w v0 v1 v2) 282069816004864263213311172714242622793594980794368 := by
 have e := qfc_add p0 p1 p2 w (1099511627776 * c0 - p0) (1099511627776 * c1 - p1) (1099511627776 * c2 - p2) (1099511627776 * c3 - w) v0 v1 v2
 rw [show p0 + (1099511627776 * c0 - p0) = 1099511627776 * c0 by omega, show p1 + (1099511627776 * c1 - p1) = 1099511627776 * c1 by omega, show p2 + (1099511627776 * c2 - p2) = 1099511627776 * c2 by omega, show w + (1099511627776 * c3 - w) = 1099511627776 * c3 by omega, qfc_mul] at e
 refine Ab.of_add e ?_
 generalize 1099511627776 * c0 - p0 = x0 at *
 generalize 1099511627776 * c1 - p1 = x1 at *
 generalize 1099511627776 * c2 - p2 = x2 at *
 generalize 1099511627776 * c3 - w = x3 at *
 exact ((Ab.two.mul ((((((k1.mul ((g0.mul hv1).sub (g1.mul hv0))).add (g1.mul ((k0.mul hv1).sub (k1.mul hv0)))).add (g1.mul ((g0.mul hv1).sub (g1.mul hv0)))).sub (k2.mul ((g2.mul hv0).sub (g0.mul hv2)))).sub (g2.mul ((k2.mul hv0).sub (k0.mul hv2)))).sub (g2.mul ((g2.mul hv0).sub (g0.mul hv2))))).sub
  (Ab.two.mul (((kw.mul ((g1.mul hv2).sub (g2.mul hv1))).add (g3.mul ((k1.mul hv2).sub (k2.mul hv1)))).add (g3.mul ((g1.mul hv2).sub (g2.mul hv1)))))).le (by decide)
theorem after_part {a0 a1 a2 s b0 b1 b2 t v0 v1 v2 y0 y1 y2 x0 c0 c1 c2 c3 z0 : Int} (U : U4 a0 a1 a2 s) (V : U4 b0 b1 b2 t) (hv0 : Ab v0 1099511627776) (hv1 : Ab v1 1099511627776) (hv2 : Ab v2 1099511627776)
  (e0 : Ab (1208925819614629174706176 * y0 - tnc b0 b1 b2 t v0 v1 v2) 9671406556917033397649408) (e1 : Ab (1208925819614629174706176 * y1 - tnc b1 b2 b0 t v1 v2 v0) 9671406556917033397649408) (e2 : Ab (1208925819614629174706176 * y2 - tnc b2 b0 b1 t v2 v0 v1) 9671406556917033397649408)
  (f : Ab (1208925819614629174706176 * x0 - tnc a0 a1 a2 s y0 y1 y2) 9671406556917033397649408)
  (g0 : Ab (1099511627776 * c0 - (a0 * t + b0 * s + (b1 * a2 - b2 * a1))) 2199023255552) (g1 : Ab (1099511627776 * c1 - (a1 * t + b1 * s + (b2 * a0 - b0 * a2))) 2199023255552)
  (g2 : Ab (1099511627776 * c2 - (a2 * t + b2 * s + (b0 * a1 - b1 * a0))) 2199023255552) (g3 : Ab (1099511627776 * c3 - (s * t - (a0 * b0 + a1 * b1 + a2 * b2))) 2199023255552)
  (h : Ab (1208925819614629174706176 * z0 - tnc c0 c1 c2 c3 v0 v1 v2) 38685626227668133590597632) : Ab (x0 - z0) 1024 := by
 have id := one_behind a0 a1 a2 s b0 b1 b2 t v0 v1 v2
 have k0 : Ab (a0 * t + b0 * s + (b1 * a2 - b2 * a1)) 4835703278458516698824704 := (((U.a0.mul V.a3).add (V.a0.mul U.a3)).add ((V.a1.mul U.a2).sub (V.a2.mul U.a1))).le (by decide)
 have k1 : Ab (a1 * t + b1 * s + (b2 * a0 - b0 * a2)) 4835703278458516698824704 := (((U.a1.mul V.a3).add (V.a1.mul U.a3)).add ((V.a2.mul U.a0).sub (V.a0.mul U.a2))).le (by decide)
 have k2 : Ab (a2 * t + b2 * s + (b0 * a1 - b1 * a0)) 4835703278458516698824704 := (((U.a2.mul V.a3).add (V.a2.mul U.a3)).add ((V.a0.mul U.a1).sub (V.a1.mul U.a0))).le (by decide)
 have k3 : Ab (s * t - (a0 * b0 + a1 * b1 + a2 * b2)) 4835703278458516698824704 := ((U.a3.mul V.a3).sub (((U.a0.mul V.a0).add (U.a1.mul V.a1)).add (U.a2.mul V.a2))).le (by decide)
 have off := qfc_off k0 k1 k2 k3 g0 g1 g2 g3 hv0 hv1 hv2
 have m := tnc_mul a0 a1 a2 s y0 y1 y2 1208925819614629174706176
 have p := tnc_add a0 a1 a2 s (tnc b0 b1 b2 t v0 v1 v2) (tnc b1 b2 b0 t v1 v2 v0) (tnc b2 b0 b1 t v2 v0 v1) (1208925819614629174706176 * y0 - tnc b0 b1 b2 t v0 v1 v2) (1208925819614629174706176 * y1 - tnc b1 b2 b0 t v1 v2 v0) (1208925819614629174706176 * y2 - tnc b2 b0 b1 t v2 v0 v1)
 rw [show tnc b0 b1 b2 t v0 v1 v2 + (1208925819614629174706176 * y0 - tnc b0 b1 b2 t v0 v1 v2) = 1208925819614629174706176 * y0 by omega, show tnc b1 b2 b0 t v1 v2 v0 + (1208925819614629174706176 * y1 - tnc b1 b2 b0 t v1 v2 v0) = 1208925819614629174706176 * y1 by omega, show tnc b2 b0 b1 t v2 v0 v1 + (1208925819614629174706176 * y2 - tnc b2 b0 b1 t v2 v0 v1) = 1208925819614629174706176 * y2 by omega] at p
 have bE := tnc_bd U.a0 U.a1 U.a2 U.a3 e0 e1 e2
 have bA := tnc_bd U.a0 U.a1 U.a2 U.a3 hv0 hv1 hv2
 have bB := tnc_bd V.a0 V.a1 V.a2 V.a3 hv0 hv1 hv2
 have q1 := U.len.mul bB
 have q2 := V.len.mul bA
 have q3 := (U.len.add V.len).mul hv0
 have hc : tnc c0 c1 c2 c3 v0 v1 v2 = 1208925819614629174706176 * v0 + qfc c0 c1 c2 c3 v0 v1 v2 := rfl
 rw [hc] at h
 generalize (a0 * a0 + a1 * a1 + a2 * a2 + s * s - 1208925819614629174706176) * tnc b0 b1 b2 t v0 v1 v2 = Q1 at *
 generalize (b0 * b0 + b1 * b1 + b2 * b2 + t * t - 1208925819614629174706176) * tnc a0 a1 a2 s v0 v1 v2 = Q2 at *
 generalize (a0 * a0 + a1 * a1 + a2 * a2 + s * s - 1208925819614629174706176 + (b0 * b0 + b1 * b1 + b2 * b2 + t * t - 1208925819614629174706176)) * v0 = Q3 at *
 generalize qfc (a0 * t + b0 * s + (b1 * a2 - b2 * a1)) (a1 * t + b1 * s + (b2 * a0 - b0 * a2)) (a2 * t + b2 * s + (b0 * a1 - b1 * a0)) (s * t - (a0 * b0 + a1 * b1 + a2 * b2)) v0 v1 v2 = QP at *
 generalize qfc c0 c1 c2 c3 v0 v1 v2 = QC at *
 generalize tnc a0 a1 a2 s (tnc b0 b1 b2 t v0 v1 v2) (tnc b1 b2 b0 t v1 v2 v0) (tnc b2 b0 b1 t v2 v0 v1) = Y at *
 generalize tnc a0 a1 a2 s (1208925819614629174706176 * y0 - tnc b0 b1 b2 t v0 v1 v2) (1208925819614629174706176 * y1 - tnc b1 b2 b0 t v1 v2 v0) (1208925819614629174706176 * y2 - tnc b2 b0 b1 t v2 v0 v1) = Z at *
 generalize tnc a0 a1 a2 s (1208925819614629174706176 * y0) (1208925819614629174706176 * y1) (1208925819614629174706176 * y2) = T at *
 generalize tnc a0 a1 a2 s y0 y1 y2 = S at *
 have := q1.lo; have := q1.hi; have := q2.lo; have := q2.hi; have := q3.lo; have := q3.hi; have := bE.lo; have := bE.hi; have := f.lo; have := f.hi; have := h.lo; have := h.hi; have := off.lo; have := off.hi
 clear q1 q2 q3 bE bA bB f h off e0 e1 e2 g0 g1 g2 g3 k0 k1 k2 k3 hc U V
 constructor <;> omega
theorem U4.next {u0 u1 u2 u3 : Int} (U : U4 u0 u1 u2 u3) : U4 u1 u2 u0 u3 := ⟨U.a1, U.a2, U.a0, U.a3, U.up, by have := U.len; rw [show u1 * u1 + u2 * u2 + u0 * u0 + u3 * u3 = u0 * u0 + u1 * u1 + u2 * u2 + u3 * u3 by omega]; exact this⟩
theorem after_math {a0 a1 a2 s b0 b1 b2 t v0 v1 v2 : Int} (U : U4 a0 a1 a2 s) (V : U4 b0 b1 b2 t) (hv0 : Ab v0 1099511627776) (hv1 : Ab v1 1099511627776) (hv2 : Ab v2 1099511627776) :
  ∃ y0 y1 y2 x0 x1 x2 c0 c1 c2 c3 z0 z1 z2, qTurnS false (b0, b1, b2, t) (v0, v1, v2) = ((y0, y1, y2), false) ∧ qTurnS false (a0, a1, a2, s) (y0, y1, y2) = ((x0, x1, x2), false) ∧
   qMulS false (a0, a1, a2, s) (b0, b1, b2, t) = ((c0, c1, c2, c3), false) ∧ qTurnS false (c0, c1, c2, c3) (v0, v1, v2) = ((z0, z1, z2), false) ∧ Ab (x0 - z0) 1024 ∧ Ab (x1 - z1) 1024 ∧ Ab (x2 - z2) 1024 := by
 obtain ⟨y0, y1, y2, ey, n0, n1, n2⟩ := turn_near V.a0 V.a1 V.a2 V.a3 (by decide) (hv0.le (by decide)) (hv1.le (by decide)) (hv2.le (by decide))
 have le8 : 2417851639229258349412352 + 6597069766656 * 1099511627776 ≤ (9671406556917033397649408 : Int) := by decide
 have le32 : 2417851639229258349412352 + 6597069766656 * 5497558138880 ≤ (38685626227668133590597632 : Int) := by decide
 have m0 := n0.le le8
 have m1 := n1.le le8
 have m2 := n2.le le8
 have k0 := turn_bd V.a0 V.a1 V.a2 V.a3 hv0 hv1 hv2 m0
 have k1 := turn_bd V.a1 V.a2 V.a0 V.a3 hv1 hv2 hv0 m1
 have k2 := turn_bd V.a2 V.a0 V.a1 V.a3 hv2 hv0 hv1 m2
 obtain ⟨x0, x1, x2, ex, p0, p1, p2⟩ := turn_near U.a0 U.a1 U.a2 U.a3 (by decide) (k0.le (by decide)) (k1.le (by decide)) (k2.le (by decide))
 obtain ⟨c0, c1, c2, c3, ec, bc0, bc1, bc2, bc3, g0, g1, g2, g3⟩ := mul4_near U.a0 U.a1 U.a2 U.a3 V.a0 V.a1 V.a2 V.a3
 obtain ⟨z0, z1, z2, ez, r0, r1, r2⟩ := turn_near bc0 bc1 bc2 bc3 (by decide) (hv0.le (by decide)) (hv1.le (by decide)) (hv2.le (by decide))
 refine ⟨y0, y1, y2, x0, x1, x2, c0, c1, c2, c3, z0, z1, z2, ey, ex, ec, ez, after_part U V hv0 hv1 hv2 m0 m1 m2 (p0.le le8) g0 g1 g2 g3 (r0.le le32), ?_, ?_⟩
 ·exact after_part U.next V.next hv1 hv2 hv0 m1 m2 m0 (p1.le le8) g1 g2 g0 (by rw [show a1 * b1 + a2 * b2 + a0 * b0 = a0 * b0 + a1 * b1 + a2 * b2 by omega]; exact g3) (r1.le le32)
 ·exact after_part U.next.next V.next.next hv2 hv0 hv1 m2 m0 m1 (p2.le le8) g2 g0 g1 (by rw [show a2 * b2 + a0 * b0 + a1 * b1 = a0 * b0 + a1 * b1 + a2 * b2 by omega]; exact g3) (r2.le le32)
end Go.Proofs.Ytooehgijllihdaa
namespace Go.Proofs.Ytooehgijllihdaa
open Go.RowKit
end Go.Proofs.Ytooehgijllihdaa
namespace Go.Proofs.Ytooehgijllihdaa
open Go.RowKit
theorem unit_full {g0 g1 g2 g3 : Int} (h0 : Ab g0 70368744177664) (h1 : Ab g1 70368744177664) (h2 : Ab g2 70368744177664) (h3 : Ab g3 70368744177664) (big : 549755813888 ≤ g0 ∨ 549755813888 ≤ g1 ∨ 549755813888 ≤ g2 ∨ 549755813888 ≤ g3) :
  ∃ n d0 d1 d2 d3, 0 ≤ n ∧ Ab g0 n ∧ Ab g1 n ∧ Ab g2 n ∧ Ab g3 n ∧ n * n ≤ g0 * g0 + g1 * g1 + g2 * g2 + g3 * g3 ∧ g0 * g0 + g1 * g1 + g2 * g2 + g3 * g3 ≤ n * n + 4 * n + 1 ∧ Uof d0 g0 n ∧ Uof d1 g1 n ∧ Uof d2 g2 n ∧ Uof d3 g3 n ∧
   qUnitS false (g0, g1, g2, g3) = (if d3 < 0 then (-d0, -d1, -d2, -d3) else (d0, d1, d2, d3), false) := by
 obtain ⟨N, eN, N0, N1, N2⟩ := norm_near h0 h1 h2 (by decide)
 have s0 := sq_nonneg g0
 have s1 := sq_nonneg g1
 have s2 := sq_nonneg g2
 have s3 := sq_nonneg g3
 have sN := sq_nonneg N
 have kN : Ab N 281474976710656 := by
  refine ⟨by omega, ?_⟩
  have := (h0.mul h0).hi; have := (h1.mul h1).hi; have := (h2.mul h2).hi
  by_cases c : N ≤ 281474976710656
  ·exact c
  ·have := sq_mono (by omega : (0 : Int) ≤ 281474976710656) (by omega : 281474976710656 ≤ N)
   omega
 obtain ⟨n, en, n0, n1, n2⟩ := norm_near kN (h3.le (by decide)) (Ab.zero (by decide)) (by decide)
 have k0 := abs_le_of_sq (a := g0) N0 (by omega)
 have k1 := abs_le_of_sq (a := g1) N0 (by omega)
 have k2 := abs_le_of_sq (a := g2) N0 (by omega)
 have k3 := abs_le_of_sq (a := g3) n0 (by omega)
 have kn := abs_le_of_sq (a := N) n0 (by omega)
 have m1 : (N + 1) * (N + 1) = N * N + 2 * N + 1 := by grind
 have m2 : (n + 1) * (n + 1) = n * n + 2 * n + 1 := by grind
 rcases qUnit_cases false (g0, g1, g2, g3) with ⟨c, _⟩ | ⟨N', n', d0, d1, d2, d3, _, e1, e2, _, _, _, _, _, U0, U1, U2, U3, e⟩
 ·have eN' : vNormS false (g0, g1, g2) = (N, false) := eN
  have en' : normS false N g3 0 = (n, false) := en
  dsimp only at c
  rw [eN'] at c
  dsimp only at c
  rw [en'] at c
  dsimp only at c
  omega
 ·have eN' : normS false g0 g1 g2 = (N, false) := eN
  have en' : normS false N g3 0 = (n, false) := en
  dsimp only at e1 e2 U0 U1 U2 U3
  rw [eN'] at e1
  obtain rfl : N = N' := congrArg Prod.fst e1
  rw [en'] at e2
  obtain rfl : n = n' := congrArg Prod.fst e2
  refine ⟨n, d0, d1, d2, d3, n0, ⟨by omega, by omega⟩, ⟨by omega, by omega⟩, ⟨by omega, by omega⟩, ⟨k3.1, k3.2⟩, by omega, by omega, U0, U1, U2, U3, e⟩
theorem uof_ab {u a n : Int} (h : Uof u a n) : Ab (2 * (u * n - a * 1099511627776)) n := ⟨by have := h.dn; omega, by have := h.up; omega⟩
end Go.Proofs.Ytooehgijllihdaa
namespace Go.Proofs.Ytooehgijllihdaa
open Go.RowKit
theorem times_near {c K L k : Int} (hc : Ab c K) (hK : K ≤ 1125899906842624) (hk : Ab (1099511627776 * k) L) (hL : L ≤ 1125899906842624) : mulS false c (1099511627776 * k) = (k * c, false) := by
 obtain ⟨m, e, h⟩ := mul_near hc hk hK hL
 have e2 : c * (1099511627776 * k) = 1099511627776 * (k * c) := by grind
 rw [e2] at h
 have := h.lo; have := h.hi
 rw [e, show m = k * c by generalize k * c = kc at *; omega]
theorem div_near {a b K : Int} (ha : Ab a K) (hK : K ≤ 4611686018427387904) (hb : 0 < b) (hb' : b ≤ 4611686018427387904) (hs : K * 1099511627776 ≤ b * 2305843009213693952) : ∃ m, divS false a b = (m, false) ∧ Ab (2 * (m * b - a * 1099511627776)) b := by
 obtain ⟨m, e, h1, h2, _⟩ := partS_near a 1099511627776 b (ha.numB hK) (by rfl) (numB_of (by omega)) hb (by
  rw [show sz 1099511627776 = 1099511627776 by rfl]
  have := sz_le ⟨ha.lo, ha.hi⟩
  omega)
 exact ⟨m, e, by omega, by omega⟩
theorem rod_id (p q qw u u3 s n d : Int) : 2 * (n * ((17592186044416 + d) * (1099511627776 + u3)) * (s - p)) =
  n * (17592186044416 + d) * (2 * (s * (1099511627776 + u3) - 4 * u * 1099511627776)) + 4835703278458516698824704 * (2 * (q * (17592186044416 + d) - 8 * p * 1099511627776)) + 4398046511104 * (2 * (u * n - q * 1099511627776) * (17592186044416 + d))
   - 2199023255552 * ((n - 1099511627776) * (17592186044416 + d) * p) - 1099511627776 * (p * (2 * (qw * (17592186044416 + d) - (17592186044416 - d) * 1099511627776))) - p * (2 * (u3 * n - qw * 1099511627776)) * (17592186044416 + d) := by grind
theorem rod_part {p q qw u u3 s n d : Int} (hp : Ab p 1099511627776) (hn : Ab (n - 1099511627776) 4) (hu : 0 ≤ u3) (he : 16492674416640 ≤ 17592186044416 + d)
  (T : Ab (2 * (s * (1099511627776 + u3) - 4 * u * 1099511627776)) (1099511627776 + u3)) (R : Ab (2 * (q * (17592186044416 + d) - 8 * p * 1099511627776)) (17592186044416 + d)) (S : Ab (2 * (u * n - q * 1099511627776)) n)
  (Rw : Ab (2 * (qw * (17592186044416 + d) - (17592186044416 - d) * 1099511627776)) (17592186044416 + d)) (Sw : Ab (2 * (u3 * n - qw * 1099511627776)) n) : Ab (s - p) 1024 := by
 have id := rod_id p q qw u u3 s n d
 have nl := hn.lo
 have nh := hn.hi
 have An : Ab n n := ⟨by omega, Int.le_refl n⟩
 have Ae : Ab (17592186044416 + d) (17592186044416 + d) := ⟨by omega, Int.le_refl _⟩
 have b := ((((((An.mul Ae).mul T).add ((⟨by decide, by decide⟩ : Ab 4835703278458516698824704 4835703278458516698824704).mul R)).add ((⟨by decide, by decide⟩ : Ab 4398046511104 4398046511104).mul (S.mul Ae))).sub ((⟨by decide, by decide⟩ : Ab 2199023255552 2199023255552).mul ((hn.mul Ae).mul hp))).sub (Ab.one40.mul (hp.mul Rw))).sub ((hp.mul Sw).mul Ae)
 rw [← id] at b
 generalize he1 : 17592186044416 + d = e at *
 generalize he2 : 1099511627776 + u3 = f at *
 have n0 : 0 < n := by omega
 -- everything by n e f
 have x1 : n * (e * f) = n * e * f := (Int.mul_assoc n e f).symm
 rw [x1] at b
 have y1 : 1099511627776 * (n * e) ≤ n * e * f := by
  have := Int.mul_le_mul_of_nonneg_left (by omega : 1099511627776 ≤ f) (Int.mul_nonneg (by omega : 0 ≤ n) (by omega : 0 ≤ e))
  omega
 have y2 : 549755813888 * e ≤ n * e := Int.mul_le_mul_of_nonneg_right (by omega) (by omega)
 have z1 : 1099511627776 * n * e = 1099511627776 * (n * e) := Int.mul_assoc _ _ _
 have z2 : 4 * e * 1099511627776 = 4398046511104 * e := by omega
 rw [z1, z2] at b
 generalize hF : n * e * f = F at *
 generalize n * e = g at *
 have bl := b.lo
 have bh := b.hi
 have F0 : 0 < F := by omega
 constructor
 ·by_cases c : -1024 ≤ s - p
  ·exact c
  ·have := Int.mul_le_mul_of_nonneg_left (by omega : s - p ≤ -1025) (by omega : 0 ≤ F)
   omega
 ·by_cases c : s - p ≤ 1024
  ·exact c
  ·have := Int.mul_le_mul_of_nonneg_left (by omega : 1025 ≤ s - p) (by omega : 0 ≤ F)
   omega
theorem rod_sum_id (p0 p1 p2 q0 q1 q2 qw d : Int) : 4 * ((17592186044416 + d) * (17592186044416 + d) * (q0 * q0 + q1 * q1 + q2 * q2 + qw * qw - 1208925819614629174706176)) =
  35184372088832 * (p0 * (2 * (q0 * (17592186044416 + d) - 8 * p0 * 1099511627776)) + p1 * (2 * (q1 * (17592186044416 + d) - 8 * p1 * 1099511627776)) + p2 * (2 * (q2 * (17592186044416 + d) - 8 * p2 * 1099511627776)))
   + 4398046511104 * ((17592186044416 - d) * (2 * (qw * (17592186044416 + d) - (17592186044416 - d) * 1099511627776)))
   + (2 * (q0 * (17592186044416 + d) - 8 * p0 * 1099511627776) * (2 * (q0 * (17592186044416 + d) - 8 * p0 * 1099511627776)) + 2 * (q1 * (17592186044416 + d) - 8 * p1 * 1099511627776) * (2 * (q1 * (17592186044416 + d) - 8 * p1 * 1099511627776))
    + 2 * (q2 * (17592186044416 + d) - 8 * p2 * 1099511627776) * (2 * (q2 * (17592186044416 + d) - 8 * p2 * 1099511627776)) + 2 * (qw * (17592186044416 + d) - (17592186044416 - d) * 1099511627776) * (2 * (qw * (17592186044416 + d) - (17592186044416 - d) * 1099511627776)))
   - 309485009821345068724781056 * (d * 1099511627776 - (p0 * p0 + p1 * p1 + p2 * p2)) := by grind
theorem rod_sum {p0 p1 p2 q0 q1 q2 qw d : Int} (h0 : Ab p0 1099511627776) (h1 : Ab p1 1099511627776) (h2 : Ab p2 1099511627776) (dl : -1 ≤ d) (du : d ≤ 3298534883331) (nd : Ab (d * 1099511627776 - (p0 * p0 + p1 * p1 + p2 * p2)) 1649267441664)
  (R0 : Ab (2 * (q0 * (17592186044416 + d) - 8 * p0 * 1099511627776)) (17592186044416 + d)) (R1 : Ab (2 * (q1 * (17592186044416 + d) - 8 * p1 * 1099511627776)) (17592186044416 + d)) (R2 : Ab (2 * (q2 * (17592186044416 + d) - 8 * p2 * 1099511627776)) (17592186044416 + d))
  (Rw : Ab (2 * (qw * (17592186044416 + d) - (17592186044416 - d) * 1099511627776)) (17592186044416 + d)) : Ab (q0 * q0 + q1 * q1 + q2 * q2 + qw * qw - 1208925819614629174706176) 4398046511104 := by
 have id := rod_sum_id p0 p1 p2 q0 q1 q2 qw d
 have D : Ab (17592186044416 - d) 18691697672192 := ⟨by omega, by omega⟩
 have b := (((((⟨by decide, by decide⟩ : Ab 35184372088832 35184372088832).mul (((h0.mul R0).add (h1.mul R1)).add (h2.mul R2))).add ((⟨by decide, by decide⟩ : Ab 4398046511104 4398046511104).mul (D.mul Rw))).add ((((R0.mul R0).add (R1.mul R1)).add (R2.mul R2)).add (Rw.mul Rw))).sub ((⟨by decide, by decide⟩ : Ab 309485009821345068724781056 309485009821345068724781056).mul nd))
 rw [← id] at b
 generalize q0 * q0 + q1 * q1 + q2 * q2 + qw * qw - 1208925819614629174706176 = X at *
 clear id R0 R1 R2 Rw nd D
 generalize he : 17592186044416 + d = e at *
 have e1 : 16492674416640 ≤ e := by omega
 have e2 : 16492674416640 * e ≤ e * e := Int.mul_le_mul_of_nonneg_right e1 (by omega)
 have bl := b.lo
 have bh := b.hi
 generalize e * e = E at *
 constructor
 ·by_cases c : -4398046511104 ≤ X
  ·exact c
  ·have := Int.mul_le_mul_of_nonneg_left (by omega : X ≤ -4398046511105) (by omega : 0 ≤ E)
   omega
 ·by_cases c : X ≤ 4398046511104
  ·exact c
  ·have := Int.mul_le_mul_of_nonneg_left (by omega : 4398046511105 ≤ X) (by omega : 0 ≤ E)
   omega
theorem quot_bd {q a e B : Int} (h : Ab (2 * (q * e - a)) e) (he : 0 < e) (hi : 2 * a + e < 2 * ((B + 1) * e)) (lo : -2 * ((B + 1) * e) < 2 * a - e) : Ab q B := by
 have := h.lo; have := h.hi
 constructor
 ·by_cases c : -B ≤ q
  ·exact c
  ·have := Int.mul_le_mul_of_nonneg_right (by omega : q ≤ -(B + 1)) (by omega : 0 ≤ e)
   have e2 : -(B + 1) * e = -((B + 1) * e) := Int.neg_mul _ _
   rw [e2] at this
   generalize (B + 1) * e = Be at *
   omega
 ·by_cases c : q ≤ B
  ·exact c
  ·have := Int.mul_le_mul_of_nonneg_right (by omega : B + 1 ≤ q) (by omega : 0 ≤ e)
   generalize (B + 1) * e = Be at *
   omega
end Go.Proofs.Ytooehgijllihdaa
namespace Go.Proofs.Ytooehgijllihdaa
open Go.RowKit
def mt (g : Nat → Int) : Nat → Nat → Int := fun a b => g (a * 6 + b)
def Rel (g : Nat → Int) (l : Nat → Nat → Int) : Prop := ∀ a b, b < 6 → g (a * 6 + b) = l a b
theorem less_k {p q p' q' : Nat → Int} (bad : Bool) (s : Int) : ∀ k, (∀ x, x < k → p x = p' x ∧ q x = q' x) → mlessS_l0 p q (s, bad) k = subsS bad s p' q' k
 | 0, _ => rfl
 | k + 1, h => by
  unfold mlessS_l0 subsS
  rw [less_k bad s k fun x hx => h x (by omega), (h k (by omega)).1, (h k (by omega)).2]
theorem Rel.set {g : Nat → Int} {l : Nat → Nat → Int} (R : Rel g l) (i j : Nat) (hj : j < 6) (v : Int) : Rel (updF g (i * 6 + j) v) (setM l i j v) := fun a b hb => by
 unfold updF setM
 by_cases c : a = i ∧ b = j
 ·rw [if_pos (by omega), if_pos c]
 ·rw [if_neg (by omega), if_neg c]; exact R a b hb
theorem root_l1_k (m : Nat → Int) {i : Nat} (hi : i < 6) {z : (Nat → Int) × Bool} {x : LB} (hb : z.2 = x.2) (R : Rel z.1 x.1) : ∀ j, j ≤ i → (mRootS_l1 m i z j).2 = (rowS (mt m) i x j).2 ∧ Rel (mRootS_l1 m i z j).1 (rowS (mt m) i x j).1
 | 0, _ => ⟨hb, R⟩
 | j + 1, h => by
  obtain ⟨eb, eR⟩ := root_l1_k m hi hb R j (by omega)
  unfold mRootS_l1 rowS
  generalize mRootS_l1 m i z j = s at eb eR ⊢
  generalize rowS (mt m) i x j = y at eb eR ⊢
  dsimp only
  have e : mlessS s.2 (m (i * 6 + j)) (fun x_ => s.1 (i * 6 + x_)) (fun x_ => s.1 (j * 6 + x_)) j = subsS y.2 (mt m i j) (y.1 i) (y.1 j) j := by
   rw [mless_is, eb]
   exact less_k y.2 _ j fun k hk => ⟨eR i k (by omega), eR j k (by omega)⟩
  rw [e, eR j j (by omega)]
  unfold entS
  dsimp only
  rw [if_neg (show ¬ i = j by omega)]
  exact ⟨rfl, eR.set i j (by omega) _⟩
theorem root_l0_k (m : Nat → Int) (bad : Bool) : ∀ i, i ≤ 6 → (mRootS_l0 m (fun _ => 0, bad) i).2 = (rowsS (mt m) (fun _ _ => 0, bad) i).2 ∧ Rel (mRootS_l0 m (fun _ => 0, bad) i).1 (rowsS (mt m) (fun _ _ => 0, bad) i).1
 | 0, _ => ⟨rfl, fun _ _ _ => rfl⟩
 | i + 1, h => by
  obtain ⟨eb, eR⟩ := root_l0_k m bad i (by omega)
  unfold mRootS_l0 rowsS
  generalize mRootS_l0 m (fun _ => 0, bad) i = s at eb eR ⊢
  generalize rowsS (mt m) (fun _ _ => 0, bad) i = y at eb eR ⊢
  dsimp only
  obtain ⟨tb, tR⟩ := root_l1_k m (show i < 6 by omega) (z := (s.1, s.2)) (x := y) eb eR i (Nat.le_refl i)
  unfold rowS
  generalize mRootS_l1 m i (s.1, s.2) i = t at tb tR ⊢
  generalize rowS (mt m) i y i = u at tb tR ⊢
  dsimp only
  have e : mlessS t.2 (m (i * 6 + i)) (fun x_ => t.1 (i * 6 + x_)) (fun x_ => t.1 (i * 6 + x_)) i = subsS u.2 (mt m i i) (u.1 i) (u.1 i) i := by
   rw [mless_is, tb]
   exact less_k u.2 _ i fun k hk => ⟨tR i k (by omega), tR i k (by omega)⟩
  rw [e, mpivot_is]
  have e2 : pivS (subsS u.2 (mt m i i) (u.1 i) (u.1 i) i) = entS u.2 (mt m i i) (u.1 i) (u.1 i) i i := by
   unfold pivS entS
   dsimp only
   rw [if_pos rfl]
   by_cases c : (subsS u.2 (mt m i i) (u.1 i) (u.1 i) i).1 < 1
   ·rw [if_pos c, if_pos c]
   ·rw [if_neg c, if_neg c]
  rw [e2]
  exact ⟨rfl, tR.set i i (by omega) _⟩
theorem fwd_k {g p : Nat → Int} {L : Nat → Nat → Int} (R : Rel g L) (bad : Bool) : ∀ i, i ≤ 6 → mforwardS_l0 g p (fun _ => 0, bad) i = fwdS L p bad i
 | 0, _ => rfl
 | i + 1, h => by
  unfold mforwardS_l0 fwdS
  rw [fwd_k R bad i (by omega)]
  dsimp only
  rw [mless_is, less_k (p' := L i) (q' := (fwdS L p bad i).1) _ _ i fun x hx => ⟨R i x (by omega), rfl⟩, R i i (by omega)]
  rfl
theorem bwd_l1_k {g : Nat → Int} {L : Nat → Nat → Int} (R : Rel g L) {s : (Nat → Int) × Bool} {i : Nat} (hi : i < 6) (v : Int) (bad : Bool) : ∀ k, mSolveS_l1 g s i (v, bad) k = subsS bad v (fun c => L (i + 1 + c) i) (fun c => s.1 (i + 1 + c)) k
 | 0 => rfl
 | k + 1 => by
  unfold mSolveS_l1 subsS
  rw [bwd_l1_k R hi v bad k]
  dsimp only
  rw [R (i + 1 + k) i hi]
theorem bwd_k {g : Nat → Int} {L : Nat → Nat → Int} (R : Rel g L) {n : Nat} (hn : n ≤ 6) (r : (Nat → Int) × Bool) (bad : Bool) : ∀ d, d ≤ n → mSolveS_l0 g n r (fun _ => 0, bad) d = bwdS L r.1 n bad d
 | 0, _ => rfl
 | d + 1, h => by
  unfold mSolveS_l0 bwdS
  rw [bwd_k R hn r bad d (by omega)]
  dsimp only
  rw [bwd_l1_k R (show n - 1 - d < 6 by omega), R _ _ (show n - 1 - d < 6 by omega)]
  rfl
end Go.Proofs.Ytooehgijllihdaa
namespace Go.Proofs.Ytooehgijllihdaa
open Go.RowKit
def Low (x : Int) : Prop := -4503599627370496 ≤ x ∧ x ≤ 4503599627370496
theorem Low.nought : Low 0 := ⟨by decide, by decide⟩
theorem sq_low {x : Int} (h : (mulS false x x).2 = false) : Low x := by
 have nx : numB x = true := by
  cases hy : numB x
  ·have : mulS false x x = (0, true) := by unfold mulS; exact partS_no (by unfold tk; simp [hy])
   rw [this] at h; cases h
  ·rfl
 have hx := numB_bd nx
 have hb : tk false [x, x, 1099511627776] = true := by unfold tk; simp [nx, show numB 1099511627776 = true by decide]
 unfold mulS at h
 rw [partS_yes hb (by decide)] at h
 have h' : ¬ (4611686018427387904 < rnd (sz x * sz x) (sz 1099511627776)) := of_decide_eq_false h
 have e : rnd (sz x * sz x) (sz 1099511627776) = (sz x * sz x + 549755813888) / 1099511627776 := rfl
 rw [e] at h'
 have s0 : 0 ≤ sz x ∧ (sz x = x ∨ sz x = -x) := by unfold sz; split <;> omega
 have hs : sz x ≤ 4503599627370496 := by
  by_cases k : sz x ≤ 4503599627370496
  ·exact k
  ·have := sq_mono (by omega : (0 : Int) ≤ 4503599627370497) (by omega : 4503599627370497 ≤ sz x)
   omega
 unfold Low
 omega
theorem sqrt_low {a : Int} (h : (sqrtS false a).2 = false) : Low (sqrtS false a).1 := by
 unfold sqrtS at h ⊢
 by_cases c : (tk false [a] && decide (0 ≤ a)) = true
 ·rw [if_pos c] at h ⊢
  rw [Bool.and_eq_true] at c
  obtain ⟨_, na⟩ := tk_one c.1
  have ha := numB_bd na
  have a0 : 0 ≤ a := of_decide_eq_true c.2
  obtain ⟨i0, i1, _⟩ := isq_spec (a * 1099511627776) (by omega) (by omega)
  generalize isq (a * 1099511627776) = r at h i0 i1 ⊢
  have hr : r ≤ 4503599627370496 := by
   by_cases k : r ≤ 4503599627370496
   ·exact k
   ·have := sq_mono (by omega : (0 : Int) ≤ 4503599627370497) (by omega : 4503599627370497 ≤ r)
    omega
  unfold out sgnd
  dsimp only
  rw [if_pos (by omega), if_neg (by decide)]
  exact ⟨by omega, hr⟩
 ·rw [if_neg c] at h; cases h
theorem less_low {p : Nat → Int} {z : Int × Bool} : ∀ {n : Nat}, (mlessS_l0 p p z n).2 = false → ∀ k, k < n → Low (p k)
 | n + 1, h, k, hk => by
  unfold mlessS_l0 at h
  obtain ⟨h1, _⟩ := sub_a h
  obtain ⟨h2, h3⟩ := mul_a h1
  rcases Nat.lt_succ_iff_lt_or_eq.1 hk with hk | rfl
  ·exact less_low h2 k hk
  ·exact sq_low h3
theorem root_l1_rest (m : Nat → Int) (i : Nat) (z : (Nat → Int) × Bool) : ∀ j e, (e < i * 6 ∨ i * 6 + j ≤ e) → (mRootS_l1 m i z j).1 e = z.1 e
 | 0, _, _ => rfl
 | j + 1, e, he => by
  unfold mRootS_l1
  dsimp only
  rw [updF_off _ _ (by omega)]
  exact root_l1_rest m i z j e (by omega)
theorem piv_good {s : Int × Bool} (h : (pivS s).2 = false) : s.2 = false ∧ Low (pivS s).1 := by
 unfold pivS at h ⊢
 by_cases c : s.1 < 1
 ·rw [if_pos c, sq_true] at h; cases h
 ·rw [if_neg c] at h ⊢
  obtain ⟨h1, h2⟩ := ahead (X := fun b => sqrtS b s.1) (by rw [sq_true]) h
  rw [h1]
  exact ⟨rfl, sqrt_low h2⟩
theorem root_low (m : Nat → Int) (b : Bool) : ∀ i, (mRootS_l0 m ((fun _ => 0), b) i).2 = false → ∀ e, Low ((mRootS_l0 m ((fun _ => 0), b) i).1 e)
 | 0, _, _ => Low.nought
 | i + 1, h, e => by
  unfold mRootS_l0 at h ⊢
  have ih := root_low m b i
  generalize mRootS_l0 m ((fun _ => 0), b) i = s at h ih ⊢
  dsimp only at h ⊢
  have hr := root_l1_rest m i (s.1, s.2) i
  have hb : (mRootS_l1 m i (s.1, s.2) i).2 = false → s.2 = false := fun h' => by
   cases k : s.2
   ·rfl
   ·rw [root_l1_bad (z := (s.1, s.2)) k i] at h'; cases h'
  generalize mRootS_l1 m i (s.1, s.2) i = t at h hr hb ⊢
  rw [mless_is, mpivot_is] at h ⊢
  obtain ⟨h1, h2⟩ := piv_good h
  have hl := less_low h1
  have ht : t.2 = false := by
   cases k : t.2
   ·rfl
   ·rw [less_bad (z := (m (i * 6 + i), t.2)) k i] at h1; cases h1
  by_cases c : e = i * 6 + i
  ·subst c; rw [updF_at]; exact h2
  ·rw [updF_off _ _ c]
   by_cases d : i * 6 ≤ e ∧ e < i * 6 + i
   ·have := hl (e - i * 6) (by omega)
    rw [show i * 6 + (e - i * 6) = e by omega] at this
    exact this
   ·rw [hr e (by omega)]
    exact ih (hb ht) e
theorem zroot_low {b : Bool} {m : Nat → Int} (h : (zRoot6 b m).2 = false) (e : Nat) : Low ((zRoot6 b m).1 e) := by
 rw [← mRoot6_eq] at h ⊢
 unfold mRootS at h ⊢
 dsimp only at h ⊢
 have hl := root_low m b 6
 generalize mRootS_l0 m ((fun _ => 0), b) 6 = s at h hl ⊢
 unfold msoundMS at h ⊢
 cases k : s.2
 ·rw [if_neg (by decide)]
  exact hl k e
 ·rw [k] at h; cases h
theorem c_is : sqrtS false 7696581394432 = (2909034330719, false) := by decide +kernel
theorem mul_c {x : Int} (h : Low x) : (mulS false 2909034330719 x).2 = false := by
 have nx : numB x = true := by unfold numB; unfold Low at h; simp; omega
 have s0 : 0 ≤ sz x ∧ (sz x = x ∨ sz x = -x) := by unfold sz; split <;> omega
 have hb : sz 2909034330719 * sz x ≤ 2535301200456458802993406410752 := by
  rw [show sz 2909034330719 = 2909034330719 from rfl]
  unfold Low at h
  omega
 obtain ⟨p, e, _⟩ := mulS_near 2909034330719 x (by decide) nx hb
 rw [e]
end Go.Proofs.Ytooehgijllihdaa
