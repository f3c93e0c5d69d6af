/-
  The field's sums, order by order: how great they can be where P, D, Q and the distance lie in given intervals, for the seat YtoadcnhcfodkgaaGreatDoor. No Go text in sight.
-/
import Derived.Test.YtoadcnhcfodkgaaGreatDoorFldB
namespace Go.Proofs.YtoadcnhcfodkgaaGreatDoor

/-- The model's g of degree n and order m, at tick 0. -/
def fG : Nat → Nat → Int
  | 1, 0 => -32270666275226
  | 1, 1 => -1550641248652
  | 2, 0 => -2810571622921
  | 2, 1 => 3244548862404
  | 2, 2 => 1812764820714
  | 3, 0 => 1496325374240
  | 3, 1 => -2643445855499
  | 3, 2 => 1367572562628
  | 3, 3 => 498518572034
  | 4, 0 => 983733053371
  | 4, 1 => 879169497570
  | 4, 2 => 61352748830
  | 4, 3 => -309072718568
  | 4, 4 => 13194139533
  | 5, 0 => -256076258109
  | 5, 1 => 405719790649
  | 5, 2 => 205828576720
  | 5, 3 => -152502262773
  | 5, 4 => -156020699981
  | 5, 5 => 22979793021
  | 6, 0 => 70698597666
  | 6, 1 => 70148841852
  | 6, 2 => 84332541850
  | 6, 3 => -127213495334
  | 6, 4 => -44970025576
  | 6, 5 => 16382723254
  | 6, 6 => -66850306969
  | _, _ => 0
def fH : Nat → Nat → Int
  | 1, 1 => 4997830104056
  | 2, 1 => -3445429636799
  | 2, 2 => -895222367335
  | 3, 1 => -62562211620
  | 3, 2 => 261243962760
  | 3, 3 => -604291590626
  | 4, 1 => 306323939498
  | 4, 2 => -147334558122
  | 4, 3 => 233096465089
  | 4, 4 => -412756665067
  | 5, 1 => 49807876738
  | 5, 2 => 241892558111
  | 5, 3 => -135129979054
  | 5, 4 => 47169048832
  | 5, 5 => 116768134870
  | 6, 1 => -20231013951
  | 6, 2 => 18471795347
  | 6, 3 => 53766118598
  | 6, 4 => -65750795341
  | 6, 5 => 11984676743
  | 6, 6 => 80044446502
  | _, _ => 0
/-- What is added in a year. -/
def fGy : Nat → Nat → Int
  | 1, 0 => 13853846510
  | 1, 1 => 10995116278
  | 2, 0 => -12314530231
  | 2, 1 => -5827411627
  | 2, 2 => -9125946511
  | _, _ => 0
def fHy : Nat → Nat → Int
  | 1, 1 => -23639499997
  | 2, 1 => -30016667438
  | 2, 2 => -12204579068
  | _, _ => 0
/-- Where g lies at right ticks. -/
def gI (n m : Nat) : Iv := if n ≤ 2 then (fG n m + min 0 (5 * fGy n m), fG n m + max 0 (5 * fGy n m)) else pt (fG n m)
def hI (n m : Nat) : Iv := if n ≤ 2 then (fH n m + min 0 (5 * fHy n m), fH n m + max 0 (5 * fHy n m)) else pt (fH n m)
/-- The third power of how near the place is, and those beyond. -/
def tS : Int → Nat → Int
  | q, 0 => (mulS false q q).1
  | q, n + 1 => (mulS false (tS q n) q).1
def tI (Q : Iv) : Nat → Iv
  | 0 => imul Q Q
  | n + 1 => imul (tI Q n) Q
def tB : Nat → Int
  | 0 => 1241245548545
  | 1 => 1318823395330
  | 2 => 1401249857539
  | 3 => 1488827973636
  | 4 => 1581879721989
  | 5 => 1680747204614
  | _ => 1785793904903
theorem tB_next (n : Nat) (h : n < 6) : tB n * 1168231104512 + 549755813888 ≤ tB (n + 1) * 1099511627776 ∧ tB n ≤ 2199023255552 := by
  have six : n = 0 ∨ n = 1 ∨ n = 2 ∨ n = 3 ∨ n = 4 ∨ n = 5 := by omega
  rcases six with rfl | rfl | rfl | rfl | rfl | rfl <;> decide
theorem tB_le (n : Nat) : tB n ≤ 2199023255552 := by unfold tB; split <;> decide
theorem t_at {q : Int} {Q : Iv} (q0 : 0 ≤ q) (q1 : q ≤ 1168231104512) (iQ : In Q q) : ∀ n, n ≤ 6 → In (tI Q n) (tS q n) ∧ 0 ≤ tS q n ∧ tS q n ≤ tB n
  | 0, _ => by
    obtain ⟨m, e, r, _⟩ := mul_x (a := q) (b := q) (K := 1168231104512) (L := 1168231104512) (B := 2199023255552) ⟨by omega, q1⟩ ⟨by omega, q1⟩ (by decide) (by decide) (by decide) (by decide)
    have p := Int.mul_nonneg q0 q0
    have p2 := Int.mul_le_mul q1 q1 q0 (by decide)
    unfold tS tI
    rw [e]
    have := r.lo; have := r.hi
    exact ⟨round_in iQ iQ r, by show 0 ≤ m; omega, by show m ≤ 1241245548545; omega⟩
  | n + 1, hn => by
    obtain ⟨i, t0, t1⟩ := t_at q0 q1 iQ n (by omega)
    have T := tB_next n (by omega)
    obtain ⟨m, e, r, _⟩ := mul_x (a := tS q n) (b := q) (K := 2199023255552) (L := 1168231104512) (B := 2400000000000) ⟨by omega, by omega⟩ ⟨by omega, q1⟩ (by decide) (by decide) (by decide) (by decide)
    have p := Int.mul_nonneg t0 q0
    have p2 := Int.mul_le_mul t1 q1 q0 (by omega)
    unfold tS tI
    rw [e]
    have := r.lo; have := r.hi
    exact ⟨round_in i iQ r, by show 0 ≤ m; omega, by show m ≤ _; omega⟩
theorem tS_good {q : Int} (q0 : 0 ≤ q) (q1 : q ≤ 1168231104512) (n : Nat) (hn : n ≤ 6) : mulS false (tS q n) q = (tS q (n + 1), false) := by
  obtain ⟨_, t0, t1⟩ := t_at (Q := pt q) q0 q1 (pt_in q) n hn
  have := tB_le n
  obtain ⟨m, e, _, _⟩ := mul_x (a := tS q n) (b := q) (K := 2199023255552) (L := 1168231104512) (B := 2400000000000) ⟨by omega, by omega⟩ ⟨by omega, q1⟩ (by decide) (by decide) (by decide) (by decide)
  rw [tS, e]
theorem tS_good0 {q : Int} (q0 : 0 ≤ q) (q1 : q ≤ 1168231104512) : mulS false q q = (tS q 0, false) := by
  obtain ⟨m, e, _, _⟩ := mul_x (a := q) (b := q) (K := 1168231104512) (L := 1168231104512) (B := 2199023255552) ⟨by omega, q1⟩ ⟨by omega, q1⟩ (by decide) (by decide) (by decide) (by decide)
  rw [tS, e]
/-- Sums over degrees and orders are sums over orders of sums over degrees. -/
theorem by_order (w g h : Nat → Nat → Int) (C S : Nat → Int) (N M : Nat) :
    sm (fun n => sm (fun m => w n m * (g n m * C m + h n m * S m)) M) N = sm (fun m => sm (fun n => w n m * g n m) N * C m + sm (fun n => w n m * h n m) N * S m) M := by
  rw [sm_trn]
  apply sm_eq
  intro m _
  rw [Int.mul_comm (sm (fun n => w n m * g n m) N), Int.mul_comm (sm (fun n => w n m * h n m) N), ← sm_mul, ← sm_mul, ← sm_add]
  apply sm_eq
  intro n _
  grind
theorem sq_le {x y : Int} (h : x * x ≤ y * y) (h0 : 0 ≤ y) : Ab x y := by
  refine ⟨?_, ?_⟩
  · apply Classical.byContradiction
    intro g
    have := Int.mul_lt_mul_of_pos_right (show y < -x by omega) (show 0 < -x by omega)
    have := Int.mul_le_mul_of_nonneg_left (show y ≤ -x by omega) h0
    rw [Int.neg_mul_neg] at *
    omega
  · apply Classical.byContradiction
    intro g
    have := Int.mul_lt_mul_of_pos_right (show y < x by omega) (show 0 < x by omega)
    have := Int.mul_le_mul_of_nonneg_left (show y ≤ x by omega) h0
    omega
theorem ab_sq {x K : Int} (h : Ab x K) : x * x ≤ K * K := (h.mul h).hi
/-- What a wave is at most, of its two parts. -/
theorem wave {A B C S H k a b K : Int} (k0 : 0 ≤ k) (hA : Ab A (a * k)) (hB : Ab B (b * k)) (hH : a * a + b * b ≤ H * H) (H0 : 0 ≤ H) (K0 : 0 ≤ K) (cs : C * C + S * S ≤ K * K) : Ab (A * C + B * S) (H * k * K) := by
  apply sq_le
  · have p1 := ab_sq hA
    have p2 := ab_sq hB
    have c := sq_nonneg (A * S - B * C)
    have e : (A * C + B * S) * (A * C + B * S) = (A * A + B * B) * (C * C + S * S) - (A * S - B * C) * (A * S - B * C) := by grind
    have s0 : 0 ≤ C * C + S * S := by have := sq_nonneg C; have := sq_nonneg S; omega
    have q1 : A * A + B * B ≤ H * k * (H * k) := by
      have := Int.mul_le_mul_of_nonneg_right hH (Int.mul_nonneg k0 k0)
      have e1 : (a * a + b * b) * (k * k) = a * k * (a * k) + b * k * (b * k) := by grind
      have e2 : H * H * (k * k) = H * k * (H * k) := by grind
      omega
    have q2 := Int.mul_le_mul q1 cs s0 (Int.mul_nonneg (Int.mul_nonneg H0 k0) (Int.mul_nonneg H0 k0))
    have e3 : H * k * (H * k) * (K * K) = H * k * K * (H * k * K) := by grind
    omega
  · exact Int.mul_nonneg (Int.mul_nonneg H0 k0) K0
def hyp (a b : Int) : Int := ((a * a + b * b) / (max a b + 3 * min a b / 8 + 1) + (max a b + 3 * min a b / 8 + 1)) / 2 + 1
def hypOK (a b : Int) : Bool := decide (a * a + b * b ≤ hyp a b * hyp a b) && decide (0 ≤ hyp a b)
section
variable (C S Q : Iv)
def uA (m : Nat) : Iv := iacc (fun n => ims ((n : Int) + 2) (imul (imul (tI Q (n + 1)) ((rowI C S (n + 1)).1.getD m z3).1) (gI (n + 1) m))) 6
def uB (m : Nat) : Iv := iacc (fun n => ims ((n : Int) + 2) (imul (imul (tI Q (n + 1)) ((rowI C S (n + 1)).1.getD m z3).1) (hI (n + 1) m))) 6
def sA (m : Nat) : Iv := iacc (fun n => imul (imul (tI Q (n + 1)) ((rowI C S (n + 1)).1.getD m z3).2.1) (gI (n + 1) m)) 6
def sB (m : Nat) : Iv := iacc (fun n => imul (imul (tI Q (n + 1)) ((rowI C S (n + 1)).1.getD m z3).2.1) (hI (n + 1) m)) 6
def eA (m : Nat) : Iv := iacc (fun n => ims (m : Int) (imul (imul (tI Q (n + 1)) ((rowI C S (n + 1)).1.getD m z3).2.2) (gI (n + 1) m))) 6
def eB (m : Nat) : Iv := iacc (fun n => ims (m : Int) (imul (imul (tI Q (n + 1)) ((rowI C S (n + 1)).1.getD m z3).2.2) (hI (n + 1) m))) 6
/-- How great a sum is at most. -/
def most (A B : Nat → Iv) : Int := sm (fun m => hyp (mag (A m)) (mag (B m))) 7
def mostOK (A B : Nat → Iv) : Bool := (List.range 7).all fun m => hypOK (mag (A m)) (mag (B m))
def rowsOK : Bool := (List.range 6).all fun n => (rowI C S (n + 1)).1.all small3
def vA (r d : Int) (m : Nat) : Iv := isub (ims r (uA C S Q m)) (ims d (sA C S Q m))
def vB (r d : Int) (m : Nat) : Iv := isub (ims r (uB C S Q m)) (ims d (sB C S Q m))
/-- In this box the field is there: 3 at least along a direction, 90 at most. -/
def boxOK (r d : Int) : Bool :=
  rowsOK C S && mostOK (uA C S Q) (uB C S Q) && mostOK (sA C S Q) (sB C S Q) && mostOK (eA C S Q) (eB C S Q) && mostOK (vA C S Q r d) (vB C S Q r d) &&
  decide (most (uA C S Q) (uB C S Q) * most (uA C S Q) (uB C S Q) + most (sA C S Q) (sB C S Q) * most (sA C S Q) (sB C S Q) + most (eA C S Q) (eB C S Q) * most (eA C S Q) (eB C S Q) ≤ 9575901417167477692847620096) &&
  decide (3100 * 1099511627776 * 1099511627776 ≤ -(vA C S Q r d 0).2 * 1099511627776 - (most (vA C S Q r d) (vB C S Q r d) - hyp (mag (vA C S Q r d 0)) (mag (vB C S Q r d 0))) * 1099528404992) &&
  decide (r * r + d * d ≤ 1000000)
end
end Go.Proofs.YtoadcnhcfodkgaaGreatDoor
