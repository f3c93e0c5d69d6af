/-
  What a box that is well says of the field's sums, for the seat YtoadcnhcfodkgaaGreatDoor. No Go text in sight.
-/
import Derived.Test.YtoadcnhcfodkgaaGreatDoorFldC
namespace Go.Proofs.YtoadcnhcfodkgaaGreatDoor

theorem sm_ab {f F : Nat → Int} : ∀ {n : Nat}, (∀ k, k < n → Ab (f k) (F k)) → Ab (sm f n) (sm F n)
  | 0, _ => ⟨by show -(0 : Int) ≤ 0; decide, by show (0 : Int) ≤ 0; decide⟩
  | n + 1, h => (sm_ab fun k hk => h k (Nat.lt_succ_of_lt hk)).add (h n (Nat.lt_succ_self n))
/-- What is put together: the numbers of the model, the cosines and sines of the longitude's multiples. -/
structure Put (g h : Nat → Nat → Int) (C S : Nat → Int) : Prop where
  g : ∀ n m, In (gI n m) (g n m)
  h : ∀ n m, In (hI n m) (h n m)
  c : ∀ m, m < 7 → C m * C m + S m * S m ≤ 1099528404992 * 1099528404992
  c0 : C 0 = 1099511627776
  s0 : S 0 = 0
section
variable (c s q : Int) (g h : Nat → Nat → Int) (C S : Nat → Int)
def wU (n m : Nat) : Int := ((n : Int) + 2) * (tS q (n + 1) * (tri c s (n + 1) m).1)
def wS (n m : Nat) : Int := tS q (n + 1) * (tri c s (n + 1) m).2.1
def wE (n m : Nat) : Int := (m : Int) * (tS q (n + 1) * (tri c s (n + 1) m).2.2)
/-- Up, 2^160 long. -/
def UPx : Int := sm (fun n => sm (fun m => wU c s q n m * (g (n + 1) m * C m + h (n + 1) m * S m)) 7) 6
/-- North. -/
def SOx : Int := sm (fun n => sm (fun m => wS c s q n m * (g (n + 1) m * C m + h (n + 1) m * S m)) 7) 6
/-- East. -/
def EAx : Int := sm (fun n => sm (fun m => wE c s q n m * (g (n + 1) m * S m - h (n + 1) m * C m)) 7) 6
end
/-- Where a box's numbers lie. -/
structure Lies (C S Q : Iv) (c s q : Int) : Prop where
  ic : In C c
  is_ : In S s
  iq : In Q q
  cb : Ab c 2199023255552
  sb : Ab s 2199023255552
  q0 : 0 ≤ q
  q1 : q ≤ 1168231104512
  rows : ∀ n, n < 6 → ∀ m, In3 ((rowI C S (n + 1)).1.getD m z3) (tri c s (n + 1) m)
  sm : ∀ n, n < 6 → ∀ m, Sm3 (tri c s (n + 1) m)
  ent : ∀ n, n < 6 → ∀ m, m < n + 1 → ∃ x, entS false c s (fB (n + 1) m) (fA (n + 1) m) (tri c s n m) (if n = 0 then (0, 0, 0) else tri c s (n - 1) m) = (tri c s (n + 1) m, x) ∧ x = false
  dia : ∀ n, n < 5 → diaS false c s (fJ (n + 2)) (tri c s (n + 1) (n + 1)) = (tri c s (n + 2) (n + 2), false)
theorem lies_at {C S Q : Iv} {c s q : Int} (iC : In C c) (iS : In S s) (iQ : In Q q) (hc : Ab c 2199023255552) (hs : Ab s 2199023255552) (q0 : 0 ≤ q) (q1 : q ≤ 1168231104512) (ok : rowsOK C S = true) : Lies C S Q c s q := by
  unfold rowsOK at ok
  rw [List.all_eq_true] at ok
  have o (n : Nat) (hn : n < 6) : (rowI C S (n + 1)).1.all small3 = true := ok n (List.mem_range.2 hn)
  obtain ⟨r1, e1⟩ := row1 hc hs iC iS (o 0 (by decide))
  obtain ⟨r2, e2, d2⟩ := row2 (n := 0) hc hs iC iS r1 (o 1 (by decide))
  obtain ⟨r3, e3, d3⟩ := row2 (n := 1) hc hs iC iS r2 (o 2 (by decide))
  obtain ⟨r4, e4, d4⟩ := row2 (n := 2) hc hs iC iS r3 (o 3 (by decide))
  obtain ⟨r5, e5, d5⟩ := row2 (n := 3) hc hs iC iS r4 (o 4 (by decide))
  obtain ⟨r6, e6, d6⟩ := row2 (n := 4) hc hs iC iS r5 (o 5 (by decide))
  have six (n : Nat) (hn : n < 6) : n = 0 ∨ n = 1 ∨ n = 2 ∨ n = 3 ∨ n = 4 ∨ n = 5 := by omega
  have go (n m : Nat) (hm : m < n + 2) (e : (entS false c s (fB (n + 2) m) (fA (n + 2) m) (tri c s (n + 1) m) (tri c s n m)).2 = false) : entS false c s (fB (n + 2) m) (fA (n + 2) m) (tri c s (n + 1) m) (tri c s n m) = (tri c s (n + 2) m, false) := by
    rw [show tri c s (n + 2) m = (entS false c s (fB (n + 2) m) (fA (n + 2) m) (tri c s (n + 1) m) (tri c s n m)).1 by (conv => lhs; unfold tri); rw [if_pos hm]]
    exact Prod.ext rfl e
  have gd (n : Nat) (e : (diaS false c s (fJ (n + 2)) (tri c s (n + 1) (n + 1))).2 = false) : diaS false c s (fJ (n + 2)) (tri c s (n + 1) (n + 1)) = (tri c s (n + 2) (n + 2), false) := by
    rw [show tri c s (n + 2) (n + 2) = (diaS false c s (fJ (n + 2)) (tri c s (n + 1) (n + 1))).1 by (conv => lhs; unfold tri); rw [if_neg (by omega), if_pos rfl]]
    exact Prod.ext rfl e
  refine ⟨iC, iS, iQ, hc, hs, q0, q1, ?_, ?_, ?_, ?_⟩
  · intro n hn
    rcases six n hn with rfl | rfl | rfl | rfl | rfl | rfl
    · exact r1.a
    · exact r2.a
    · exact r3.a
    · exact r4.a
    · exact r5.a
    · exact r6.a
  · intro n hn
    rcases six n hn with rfl | rfl | rfl | rfl | rfl | rfl
    · exact r1.sa
    · exact r2.sa
    · exact r3.sa
    · exact r4.sa
    · exact r5.sa
    · exact r6.sa
  · intro n hn m hm
    refine ⟨false, ?_, rfl⟩
    rcases six n hn with rfl | rfl | rfl | rfl | rfl | rfl
    · obtain rfl : m = 0 := by omega
      rw [if_pos rfl, show tri c s 0 0 = (1099511627776, 0, 0) by unfold tri; rfl, show tri c s (0 + 1) 0 = (entS false c s (fB 1 0) (fA 1 0) (1099511627776, 0, 0) (0, 0, 0)).1 by unfold tri; rfl]
      exact Prod.ext rfl e1
    · rw [if_neg (by decide)]; exact go 0 m hm (e2 m)
    · rw [if_neg (by decide)]; exact go 1 m hm (e3 m)
    · rw [if_neg (by decide)]; exact go 2 m hm (e4 m)
    · rw [if_neg (by decide)]; exact go 3 m hm (e5 m)
    · rw [if_neg (by decide)]; exact go 4 m hm (e6 m)
  · intro n hn
    have five : n = 0 ∨ n = 1 ∨ n = 2 ∨ n = 3 ∨ n = 4 := by omega
    rcases five with rfl | rfl | rfl | rfl | rfl
    · exact gd 0 d2
    · exact gd 1 d3
    · exact gd 2 d4
    · exact gd 3 d5
    · exact gd 4 d6
abbrev K80 : Int := 1208925819614629174706176
theorem InK.mul3 {X Y Z : Iv} {x y z : Int} (a : In X x) (b : In Y y) (c : In Z z) : InK K80 (imul (imul X Y) Z) (x * y * z) := InK.mul (k := 1099511627776) (l := 1) (by decide) (by decide) (InK.mul (by decide) (by decide) a b) c
section
variable {C S Q : Iv} {c s q : Int} {g h : Nat → Nat → Int} {Cm Sm : Nat → Int}
theorem uA_in (L : Lies C S Q c s q) (G : ∀ n m, In (gI n m) (g n m)) (m : Nat) : InK K80 (uA C S Q m) (sm (fun n => wU c s q n m * g (n + 1) m) 6) :=
  iacc_in fun n hn => by
    have := ((InK.mul3 (t_at L.q0 L.q1 L.iq (n + 1) (by omega)).1 (L.rows n hn m).p (G (n + 1) m)).ims ((n : Int) + 2))
    unfold wU
    rw [Int.mul_assoc]
    exact this
theorem uB_in (L : Lies C S Q c s q) (G : ∀ n m, In (hI n m) (h n m)) (m : Nat) : InK K80 (uB C S Q m) (sm (fun n => wU c s q n m * h (n + 1) m) 6) :=
  iacc_in fun n hn => by
    have := ((InK.mul3 (t_at L.q0 L.q1 L.iq (n + 1) (by omega)).1 (L.rows n hn m).p (G (n + 1) m)).ims ((n : Int) + 2))
    unfold wU
    rw [Int.mul_assoc]
    exact this
theorem sA_in (L : Lies C S Q c s q) (G : ∀ n m, In (gI n m) (g n m)) (m : Nat) : InK K80 (sA C S Q m) (sm (fun n => wS c s q n m * g (n + 1) m) 6) :=
  iacc_in fun n hn => InK.mul3 (t_at L.q0 L.q1 L.iq (n + 1) (by omega)).1 (L.rows n hn m).d (G (n + 1) m)
theorem sB_in (L : Lies C S Q c s q) (G : ∀ n m, In (hI n m) (h n m)) (m : Nat) : InK K80 (sB C S Q m) (sm (fun n => wS c s q n m * h (n + 1) m) 6) :=
  iacc_in fun n hn => InK.mul3 (t_at L.q0 L.q1 L.iq (n + 1) (by omega)).1 (L.rows n hn m).d (G (n + 1) m)
theorem eA_in (L : Lies C S Q c s q) (G : ∀ n m, In (gI n m) (g n m)) (m : Nat) : InK K80 (eA C S Q m) (sm (fun n => wE c s q n m * g (n + 1) m) 6) :=
  iacc_in fun n hn => by
    have := ((InK.mul3 (t_at L.q0 L.q1 L.iq (n + 1) (by omega)).1 (L.rows n hn m).q (G (n + 1) m)).ims (m : Int))
    unfold wE
    rw [Int.mul_assoc]
    exact this
theorem eB_in (L : Lies C S Q c s q) (G : ∀ n m, In (hI n m) (h n m)) (m : Nat) : InK K80 (eB C S Q m) (sm (fun n => wE c s q n m * h (n + 1) m) 6) :=
  iacc_in fun n hn => by
    have := ((InK.mul3 (t_at L.q0 L.q1 L.iq (n + 1) (by omega)).1 (L.rows n hn m).q (G (n + 1) m)).ims (m : Int))
    unfold wE
    rw [Int.mul_assoc]
    exact this
end
theorem hypOK_get {a b : Int} (h : hypOK a b = true) : a * a + b * b ≤ hyp a b * hyp a b ∧ 0 ≤ hyp a b := by
  unfold hypOK at h
  simp only [Bool.and_eq_true, decide_eq_true_eq] at h
  exact h
/-- How great a sum of waves is at most. -/
theorem most_get {A B : Nat → Iv} {a b C S : Nat → Int} (ok : mostOK A B = true) (hA : ∀ m, InK K80 (A m) (a m)) (hB : ∀ m, InK K80 (B m) (b m)) (cs : ∀ m, m < 7 → C m * C m + S m * S m ≤ 1099528404992 * 1099528404992) :
    Ab (sm (fun m => a m * C m + b m * S m) 7) (most A B * (K80 * 1099528404992)) ∧ (∀ m, m < 7 → Ab (a m * C m + b m * S m) (hyp (mag (A m)) (mag (B m)) * (K80 * 1099528404992))) := by
  unfold mostOK at ok
  rw [List.all_eq_true] at ok
  have one (m : Nat) (hm : m < 7) : Ab (a m * C m + b m * S m) (hyp (mag (A m)) (mag (B m)) * (K80 * 1099528404992)) := by
    have o := hypOK_get (ok m (List.mem_range.2 hm))
    have := wave (C := C m) (S := S m) (K := 1099528404992) (k := K80) (by decide) (mag_k (by decide) (hA m)) (mag_k (by decide) (hB m)) o.1 o.2 (by decide) (cs m hm)
    rw [Int.mul_assoc] at this
    exact this
  refine ⟨?_, one⟩
  have := sm_ab one
  rw [sm_eq (g := fun m => (K80 * 1099528404992) * hyp (mag (A m)) (mag (B m))) (fun k _ => Int.mul_comm _ _), sm_mul, Int.mul_comm] at this
  exact this
theorem sm_first (f : Nat → Int) : ∀ n, sm f (n + 1) = f 0 + sm (fun k => f (k + 1)) n
  | 0 => by show 0 + f 0 = f 0 + 0; omega
  | n + 1 => by
    show sm f (n + 1) + f (n + 1) = f 0 + (sm (fun k => f (k + 1)) n + f (n + 1))
    rw [sm_first f n]; omega
/-- What a box that is well says. -/
structure Bx (c s q : Int) (g h : Nat → Nat → Int) (C S : Nat → Int) : Type where
  (U V E r d : Int)
  up : Ab (UPx c s q g h C S) (U * (K80 * 1099528404992))
  so : Ab (SOx c s q g h C S) (V * (K80 * 1099528404992))
  ea : Ab (EAx c s q g h C S) (E * (K80 * 1099528404992))
  sq : U * U + V * V + E * E ≤ 9575901417167477692847620096
  rd : r * r + d * d ≤ 1000000
  low : 3100 * 1099511627776 * 1099511627776 * K80 ≤ -(r * UPx c s q g h C S - d * SOx c s q g h C S)
theorem box_at {C S Q : Iv} {c s q r d : Int} {g h : Nat → Nat → Int} {Cm Sm : Nat → Int} (iC : In C c) (iS : In S s) (iQ : In Q q) (hc : Ab c 2199023255552) (hs : Ab s 2199023255552) (q0 : 0 ≤ q) (q1 : q ≤ 1168231104512) (P : Put g h Cm Sm) (ok : boxOK C S Q r d = true) :
    Lies C S Q c s q ∧ Nonempty (Bx c s q g h Cm Sm) := by
  unfold boxOK at ok
  simp only [Bool.and_eq_true, decide_eq_true_eq] at ok
  obtain ⟨⟨⟨⟨⟨⟨⟨o1, o2⟩, o3⟩, o4⟩, o5⟩, o6⟩, o7⟩, o8⟩ := ok
  have L := lies_at iC iS iQ hc hs q0 q1 o1
  refine ⟨L, ⟨⟨_, _, _, r, d, ?_, ?_, ?_, o6, o8, ?_⟩⟩⟩
  · unfold UPx
    rw [by_order (wU c s q) (fun n m => g (n + 1) m) (fun n m => h (n + 1) m)]
    exact (most_get o2 (uA_in L P.g) (uB_in L P.h) P.c).1
  · unfold SOx
    rw [by_order (wS c s q) (fun n m => g (n + 1) m) (fun n m => h (n + 1) m)]
    exact (most_get o3 (sA_in L P.g) (sB_in L P.h) P.c).1
  · unfold EAx
    have e : sm (fun n => sm (fun m => wE c s q n m * (g (n + 1) m * Sm m - h (n + 1) m * Cm m)) 7) 6 = sm (fun n => sm (fun m => wE c s q n m * (g (n + 1) m * Sm m + h (n + 1) m * -Cm m)) 7) 6 := by
      apply sm_eq; intro n _; apply sm_eq; intro m _
      rw [Int.mul_neg, Int.sub_eq_add_neg]
    rw [e, by_order (wE c s q) (fun n m => g (n + 1) m) (fun n m => h (n + 1) m) Sm (fun m => -Cm m)]
    exact (most_get (C := Sm) (S := fun m => -Cm m) o4 (eA_in L P.g) (eB_in L P.h) (fun m hm => by
      have := P.c m hm
      show Sm m * Sm m + -Cm m * -Cm m ≤ _
      rw [Int.neg_mul_neg]; omega)).1
  · have e : r * UPx c s q g h Cm Sm - d * SOx c s q g h Cm Sm = sm (fun m => (r * sm (fun n => wU c s q n m * g (n + 1) m) 6 - d * sm (fun n => wS c s q n m * g (n + 1) m) 6) * Cm m + (r * sm (fun n => wU c s q n m * h (n + 1) m) 6 - d * sm (fun n => wS c s q n m * h (n + 1) m) 6) * Sm m) 7 := by
      unfold UPx SOx
      rw [by_order (wU c s q) (fun n m => g (n + 1) m) (fun n m => h (n + 1) m), by_order (wS c s q) (fun n m => g (n + 1) m) (fun n m => h (n + 1) m), ← sm_mul, ← sm_mul, Int.sub_eq_add_neg, ← Int.neg_one_mul, ← sm_mul, ← sm_add]
      apply sm_eq
      intro m _
      grind
    have vAi (m : Nat) : InK K80 (vA C S Q r d m) (r * sm (fun n => wU c s q n m * g (n + 1) m) 6 - d * sm (fun n => wS c s q n m * g (n + 1) m) 6) := ((uA_in L P.g m).ims r).sub ((sA_in L P.g m).ims d)
    have vBi (m : Nat) : InK K80 (vB C S Q r d m) (r * sm (fun n => wU c s q n m * h (n + 1) m) 6 - d * sm (fun n => wS c s q n m * h (n + 1) m) 6) := ((uB_in L P.h m).ims r).sub ((sB_in L P.h m).ims d)
    have w := (most_get (C := Cm) (S := Sm) o5 vAi vBi P.c).2
    rw [e, sm_first, P.c0, P.s0, Int.mul_zero, Int.add_zero]
    have rest := sm_ab (f := fun k => (r * sm (fun n => wU c s q n (k + 1) * g (n + 1) (k + 1)) 6 - d * sm (fun n => wS c s q n (k + 1) * g (n + 1) (k + 1)) 6) * Cm (k + 1) + (r * sm (fun n => wU c s q n (k + 1) * h (n + 1) (k + 1)) 6 - d * sm (fun n => wS c s q n (k + 1) * h (n + 1) (k + 1)) 6) * Sm (k + 1)) (n := 6) (fun k hk => w (k + 1) (by omega))
    rw [sm_eq (n := 6) (g := fun m => (K80 * 1099528404992) * hyp (mag (vA C S Q r d (m + 1))) (mag (vB C S Q r d (m + 1)))) (fun k _ => Int.mul_comm _ _), sm_mul] at rest
    have m0 : most (vA C S Q r d) (vB C S Q r d) = hyp (mag (vA C S Q r d 0)) (mag (vB C S Q r d 0)) + sm (fun m => hyp (mag (vA C S Q r d (m + 1))) (mag (vB C S Q r d (m + 1)))) 6 := sm_first _ 6
    have z := (vAi 0).hi
    have r2 := rest.hi
    generalize sm (fun k => (r * sm (fun n => wU c s q n (k + 1) * g (n + 1) (k + 1)) 6 - d * sm (fun n => wS c s q n (k + 1) * g (n + 1) (k + 1)) 6) * Cm (k + 1) + (r * sm (fun n => wU c s q n (k + 1) * h (n + 1) (k + 1)) 6 - d * sm (fun n => wS c s q n (k + 1) * h (n + 1) (k + 1)) 6) * Sm (k + 1)) 6 = R at r2 ⊢
    generalize r * sm (fun n => wU c s q n 0 * g (n + 1) 0) 6 - d * sm (fun n => wS c s q n 0 * g (n + 1) 0) 6 = Z at z ⊢
    rw [m0] at o7
    generalize sm (fun m => hyp (mag (vA C S Q r d (m + 1))) (mag (vB C S Q r d (m + 1)))) 6 = H at r2 o7
    generalize hyp (mag (vA C S Q r d 0)) (mag (vB C S Q r d 0)) = H0 at o7
    generalize (vA C S Q r d 0).2 = v0 at o7 z
    have K : K80 = 1208925819614629174706176 := rfl
    rw [K] at z r2 ⊢
    omega
end Go.Proofs.YtoadcnhcfodkgaaGreatDoor
