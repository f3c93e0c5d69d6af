/-
  The field's P, D and Q of all degrees and orders, as rounded steps work them, and intervals in which they lie, for the seat YtoadcnhcfodkgaaGreatDoor. No Go text in sight.
-/
import Derived.Test.YtoadcnhcfodkgaaGreatDoorFldA
namespace Go.Proofs.YtoadcnhcfodkgaaGreatDoor

/-- Degree n, order m below n: k(n-1, m) / k(n, m). -/
def fA : Nat → Nat → Int
  | 2, 0 => 549755813888
  | 3, 0 => 733007751851
  | 3, 1 => 673310613577
  | 4, 0 => 824633720832
  | 4, 1 => 802969761030
  | 4, 2 => 709731703890
  | 5, 0 => 879609302221
  | 5, 1 => 869240264403
  | 5, 2 => 831152665920
  | 5, 3 => 727258582680
  | 6, 0 => 916259689813
  | 6, 1 => 910482127710
  | 6, 2 => 890706219313
  | 6, 3 => 846404445698
  | 6, 4 => 737574822528
  | _, _ => 0
/-- (2 n - 1) / k(n, m). -/
def fB : Nat → Nat → Int
  | 1, 0 => 1099511627776
  | 2, 0 => 1649267441664
  | 2, 1 => 1904410002822
  | 3, 0 => 1832519379627
  | 3, 1 => 1943680319985
  | 3, 2 => 2458582741759
  | 4, 0 => 1924145348608
  | 4, 1 => 1987248770891
  | 4, 2 => 2221811669958
  | 4, 3 => 2909034330719
  | 5, 0 => 1979120929997
  | 5, 1 => 2019931840731
  | 5, 2 => 2159397969329
  | 5, 3 => 2473901162496
  | 5, 4 => 3298534883328
  | 6, 0 => 2015771317589
  | 6, 1 => 2044365246745
  | 6, 2 => 2138048351983
  | 6, 3 => 2327612225670
  | 6, 4 => 2704441015935
  | 6, 5 => 3646667521967
  | _, _ => 0
/-- The root of (2 n - 1) / 2 n. -/
def fJ : Nat → Int
  | 2 => 952205001410
  | 3 => 1003712201286
  | 4 => 1028498950977
  | 5 => 1043088317283
  | 6 => 1052702237726
  | _ => 0
theorem fA_bd (n m : Nat) : Ab (fA n m) 4398046511104 := by unfold fA; split <;> exact ⟨by decide, by decide⟩
theorem fB_bd (n m : Nat) : Ab (fB n m) 4398046511104 := by unfold fB; split <;> exact ⟨by decide, by decide⟩
theorem fJ_bd (n : Nat) : Ab (fJ n) 4398046511104 := by unfold fJ; split <;> exact ⟨by decide, by decide⟩
/-- P, D and Q of one degree more, of those of the two below. -/
def entS (bad : Bool) (c s b a : Int) (x y : V3) : V3 × Bool :=
  let r1 := mulS bad c x.1; let r2 := mulS r1.2 b r1.1; let r3 := mulS r2.2 a y.1; let r4 := subS r3.2 r2.1 r3.1
  let r5 := mulS r4.2 c x.2.1; let r6 := mulS r5.2 s x.1; let r7 := subS r6.2 r5.1 r6.1; let r8 := mulS r7.2 b r7.1; let r9 := mulS r8.2 a y.2.1; let r10 := subS r9.2 r8.1 r9.1
  let r11 := mulS r10.2 c x.2.2; let r12 := mulS r11.2 b r11.1; let r13 := mulS r12.2 a y.2.2; let r14 := subS r13.2 r12.1 r13.1
  ((r4.1, r10.1, r14.1), r14.2)
/-- Those of order n, of those of degree n - 1. -/
def diaS (bad : Bool) (c s j : Int) (x : V3) : V3 × Bool :=
  let r1 := mulS bad s x.1; let r2 := mulS r1.2 j r1.1
  let r3 := mulS r2.2 s x.2.1; let r4 := mulS r3.2 c x.1; let r5 := addS r4.2 r3.1 r4.1; let r6 := mulS r5.2 j r5.1
  let r7 := mulS r6.2 s x.2.2; let r8 := mulS r7.2 j r7.1
  ((r2.1, r6.1, r8.1), r8.2)
abbrev T3 := Iv × Iv × Iv
structure In3 (X : T3) (x : V3) : Prop where
  p : In X.1 x.1
  d : In X.2.1 x.2.1
  q : In X.2.2 x.2.2
def entI (C S : Iv) (b a : Int) (x y : T3) : T3 :=
  (isub (imul (pt b) (imul C x.1)) (imul (pt a) y.1), isub (imul (pt b) (isub (imul C x.2.1) (imul S x.1))) (imul (pt a) y.2.1), isub (imul (pt b) (imul C x.2.2)) (imul (pt a) y.2.2))
def diaI (C S : Iv) (j : Int) (x : T3) : T3 := (imul (pt j) (imul S x.1), imul (pt j) (iadd (imul S x.2.1) (imul C x.1)), imul (pt j) (imul S x.2.2))
/-- All three up to 16. -/
structure Sm3 (x : V3) : Prop where
  p : Ab x.1 17592186044416
  d : Ab x.2.1 17592186044416
  q : Ab x.2.2 17592186044416
theorem ent_at {c s b a : Int} {x y : V3} {C S : Iv} {X Y : T3} (hc : Ab c 2199023255552) (hs : Ab s 2199023255552) (hb : Ab b 4398046511104) (ha : Ab a 4398046511104) (sx : Sm3 x) (sy : Sm3 y) (iC : In C c) (iS : In S s) (ix : In3 X x) (iy : In3 Y y) :
    ∃ z, entS false c s b a x y = (z, false) ∧ In3 (entI C S b a X Y) z := by
  obtain ⟨v1, h1, q1, b1⟩ := mul_x (B := 35184372088833) hc sx.p (by decide) (by decide) (by decide) (by decide)
  obtain ⟨v2, h2, q2, b2⟩ := mul_x (B := 140737488355333) hb b1 (by decide) (by decide) (by decide) (by decide)
  obtain ⟨v3, h3, q3, b3⟩ := mul_x (B := 70368744177665) ha sy.p (by decide) (by decide) (by decide) (by decide)
  have h4 := sub_near b2 b3 (by decide) (by decide) (by decide)
  obtain ⟨v5, h5, q5, b5⟩ := mul_x (B := 35184372088833) hc sx.d (by decide) (by decide) (by decide) (by decide)
  obtain ⟨v6, h6, q6, b6⟩ := mul_x (B := 35184372088833) hs sx.p (by decide) (by decide) (by decide) (by decide)
  have h7 := sub_near b5 b6 (by decide) (by decide) (by decide)
  obtain ⟨v8, h8, q8, b8⟩ := mul_x (B := 281474976710666) hb (b5.sub b6) (by decide) (by decide) (by decide) (by decide)
  obtain ⟨v9, h9, q9, b9⟩ := mul_x (B := 70368744177665) ha sy.d (by decide) (by decide) (by decide) (by decide)
  have h10 := sub_near b8 b9 (by decide) (by decide) (by decide)
  obtain ⟨v11, h11, q11, b11⟩ := mul_x (B := 35184372088833) hc sx.q (by decide) (by decide) (by decide) (by decide)
  obtain ⟨v12, h12, q12, b12⟩ := mul_x (B := 140737488355333) hb b11 (by decide) (by decide) (by decide) (by decide)
  obtain ⟨v13, h13, q13, b13⟩ := mul_x (B := 70368744177665) ha sy.q (by decide) (by decide) (by decide) (by decide)
  have h14 := sub_near b12 b13 (by decide) (by decide) (by decide)
  refine ⟨(v2 - v3, v8 - v9, v12 - v13), ?_, ?_, ?_, ?_⟩
  · unfold entS
    simp only [h1, h2, h3, h4, h5, h6, h7, h8, h9, h10, h11, h12, h13, h14]
  · exact (round_in (pt_in b) (round_in iC ix.p q1) q2).sub (round_in (pt_in a) iy.p q3)
  · exact (round_in (pt_in b) ((round_in iC ix.d q5).sub (round_in iS ix.p q6)) q8).sub (round_in (pt_in a) iy.d q9)
  · exact (round_in (pt_in b) (round_in iC ix.q q11) q12).sub (round_in (pt_in a) iy.q q13)
theorem dia_at {c s j : Int} {x : V3} {C S : Iv} {X : T3} (hc : Ab c 2199023255552) (hs : Ab s 2199023255552) (hj : Ab j 4398046511104) (sx : Sm3 x) (iC : In C c) (iS : In S s) (ix : In3 X x) :
    ∃ z, diaS false c s j x = (z, false) ∧ In3 (diaI C S j X) z := by
  obtain ⟨v1, h1, q1, b1⟩ := mul_x (B := 35184372088833) hs sx.p (by decide) (by decide) (by decide) (by decide)
  obtain ⟨v2, h2, q2, b2⟩ := mul_x (B := 140737488355333) hj b1 (by decide) (by decide) (by decide) (by decide)
  obtain ⟨v3, h3, q3, b3⟩ := mul_x (B := 35184372088833) hs sx.d (by decide) (by decide) (by decide) (by decide)
  obtain ⟨v4, h4, q4, b4⟩ := mul_x (B := 35184372088833) hc sx.p (by decide) (by decide) (by decide) (by decide)
  have h5 := add_near b3 b4 (by decide) (by decide) (by decide)
  obtain ⟨v6, h6, q6, b6⟩ := mul_x (B := 281474976710666) hj (b3.add b4) (by decide) (by decide) (by decide) (by decide)
  obtain ⟨v7, h7, q7, b7⟩ := mul_x (B := 35184372088833) hs sx.q (by decide) (by decide) (by decide) (by decide)
  obtain ⟨v8, h8, q8, b8⟩ := mul_x (B := 140737488355333) hj b7 (by decide) (by decide) (by decide) (by decide)
  refine ⟨(v2, v6, v8), ?_, ?_, ?_, ?_⟩
  · unfold diaS
    simp only [h1, h2, h3, h4, h5, h6, h7, h8]
  · exact round_in (pt_in j) (round_in iS ix.p q1) q2
  · exact round_in (pt_in j) ((round_in iS ix.d q3).add (round_in iC ix.p q4)) q6
  · exact round_in (pt_in j) (round_in iS ix.q q7) q8
/-- P, D and Q of degree n and order m. -/
def tri (c s : Int) : Nat → Nat → V3
  | 0, m => if m = 0 then (1099511627776, 0, 0) else (0, 0, 0)
  | 1, m => if m = 0 then (entS false c s (fB 1 0) (fA 1 0) (1099511627776, 0, 0) (0, 0, 0)).1 else if m = 1 then (s, c, 1099511627776) else (0, 0, 0)
  | n + 2, m => if m < n + 2 then (entS false c s (fB (n + 2) m) (fA (n + 2) m) (tri c s (n + 1) m) (tri c s n m)).1 else if m = n + 2 then (diaS false c s (fJ (n + 2)) (tri c s (n + 1) (n + 1))).1 else (0, 0, 0)
def z3 : T3 := (pt 0, pt 0, pt 0)
def tab (k : Nat) (f : Nat → T3) : List T3 := (List.range k).map f
theorem tab_get (k : Nat) (f : Nat → T3) (m : Nat) : (tab k f).getD m z3 = if m < k then f m else z3 := by
  unfold tab
  by_cases h : m < k
  · rw [if_pos h]; simp [List.getD, h]
  · rw [if_neg h]; simp [List.getD, h]
/-- A row and the one ahead of it. -/
def rowI (C S : Iv) : Nat → List T3 × List T3
  | 0 => (tab 1 (fun _ => (pt 1099511627776, pt 0, pt 0)), [])
  | 1 => (tab 2 (fun m => if m = 0 then entI C S (fB 1 0) (fA 1 0) (pt 1099511627776, pt 0, pt 0) z3 else (S, C, pt 1099511627776)), tab 1 (fun _ => (pt 1099511627776, pt 0, pt 0)))
  | n + 2 => (tab (n + 3) (fun m => if m < n + 2 then entI C S (fB (n + 2) m) (fA (n + 2) m) ((rowI C S (n + 1)).1.getD m z3) ((rowI C S (n + 1)).2.getD m z3) else diaI C S (fJ (n + 2)) ((rowI C S (n + 1)).1.getD (n + 1) z3)), (rowI C S (n + 1)).1)
theorem rowI0 (C S : Iv) : (rowI C S 0).1 = tab 1 (fun _ => (pt 1099511627776, pt 0, pt 0)) := by rw [rowI]
theorem rowI1 (C S : Iv) : (rowI C S 1).1 = tab 2 (fun m => if m = 0 then entI C S (fB 1 0) (fA 1 0) (pt 1099511627776, pt 0, pt 0) z3 else (S, C, pt 1099511627776)) := by rw [rowI]
theorem rowI10 (C S : Iv) : (rowI C S 1).2 = (rowI C S 0).1 := by rw [rowI, rowI]
def small3 (X : T3) : Bool := decide (mag X.1 ≤ 17592186044416) && decide (mag X.2.1 ≤ 17592186044416) && decide (mag X.2.2 ≤ 17592186044416)
theorem small3_get {X : T3} {x : V3} (h : small3 X = true) (i : In3 X x) : Sm3 x := by
  unfold small3 at h
  simp only [Bool.and_eq_true, decide_eq_true_eq] at h
  exact ⟨mag_ab i.p h.1.1, mag_ab i.d h.1.2, mag_ab i.q h.2⟩
theorem z3_in : In3 z3 (0, 0, 0) := ⟨pt_in 0, pt_in 0, pt_in 0⟩
theorem one3_in : In3 (pt 1099511627776, pt 0, pt 0) (1099511627776, 0, 0) := ⟨pt_in _, pt_in 0, pt_in 0⟩
theorem Sm3.zero : Sm3 (0, 0, 0) := ⟨⟨by decide, by decide⟩, ⟨by decide, by decide⟩, ⟨by decide, by decide⟩⟩
theorem Sm3.one : Sm3 (1099511627776, 0, 0) := ⟨⟨by decide, by decide⟩, ⟨by decide, by decide⟩, ⟨by decide, by decide⟩⟩
/-- All steps of one row are good, and lie where the intervals say. -/
structure RowOK (c s : Int) (L : List T3 × List T3) (n : Nat) : Prop where
  a : ∀ m, In3 (L.1.getD m z3) (tri c s n m)
  b : ∀ m, n ≠ 0 → In3 (L.2.getD m z3) (tri c s (n - 1) m)
  sa : ∀ m, Sm3 (tri c s n m)
  sb : ∀ m, n ≠ 0 → Sm3 (tri c s (n - 1) m)
theorem row0 (c s : Int) (C S : Iv) : RowOK c s (rowI C S 0) 0 := by
  have h (m : Nat) : In3 ((rowI C S 0).1.getD m z3) (tri c s 0 m) := by
    rw [rowI0, tab_get]
    unfold tri
    by_cases hm : m = 0
    · rw [if_pos (by omega), if_pos hm]; exact one3_in
    · rw [if_neg (by omega), if_neg hm]; exact z3_in
  have k (m : Nat) : Sm3 (tri c s 0 m) := by
    unfold tri
    split
    · exact Sm3.one
    · exact Sm3.zero
  exact ⟨h, fun m e => absurd rfl e, k, fun m e => absurd rfl e⟩
theorem row1 {c s : Int} {C S : Iv} (hc : Ab c 2199023255552) (hs : Ab s 2199023255552) (iC : In C c) (iS : In S s) (ok : (rowI C S 1).1.all small3 = true) :
    RowOK c s (rowI C S 1) 1 ∧ (entS false c s (fB 1 0) (fA 1 0) (1099511627776, 0, 0) (0, 0, 0)).2 = false := by
  obtain ⟨z, e, i⟩ := ent_at (x := (1099511627776, 0, 0)) (y := (0, 0, 0)) hc hs (fB_bd 1 0) (fA_bd 1 0) Sm3.one Sm3.zero iC iS one3_in z3_in
  have h (m : Nat) : In3 ((rowI C S 1).1.getD m z3) (tri c s 1 m) := by
    rw [rowI1, tab_get]
    unfold tri
    by_cases hm : m = 0
    · rw [if_pos (by omega), if_pos hm, if_pos hm, e]; exact i
    · by_cases h1 : m = 1
      · rw [if_pos (by omega), if_neg hm, if_neg hm, if_pos h1]; exact ⟨iS, iC, pt_in _⟩
      · rw [if_neg (by omega), if_neg hm, if_neg h1]; exact z3_in
  refine ⟨⟨h, fun m _ => by rw [rowI10]; exact (row0 c s C S).a m, fun m => ?_, fun m _ => (row0 c s C S).sa m⟩, by rw [e]⟩
  by_cases hm : m < 2
  · refine small3_get (X := (rowI C S 1).1.getD m z3) ?_ (h m)
    rw [List.all_eq_true] at ok
    apply ok
    rw [rowI1, tab_get, if_pos hm]
    exact List.mem_map.2 ⟨m, List.mem_range.2 hm, rfl⟩
  · unfold tri
    rw [if_neg (by omega), if_neg (by omega)]
    exact Sm3.zero
theorem row2 {c s : Int} {C S : Iv} {n : Nat} (hc : Ab c 2199023255552) (hs : Ab s 2199023255552) (iC : In C c) (iS : In S s) (R : RowOK c s (rowI C S (n + 1)) (n + 1)) (ok : (rowI C S (n + 2)).1.all small3 = true) :
    RowOK c s (rowI C S (n + 2)) (n + 2) ∧ (∀ m, (entS false c s (fB (n + 2) m) (fA (n + 2) m) (tri c s (n + 1) m) (tri c s n m)).2 = false) ∧ (diaS false c s (fJ (n + 2)) (tri c s (n + 1) (n + 1))).2 = false := by
  have E (m : Nat) := ent_at hc hs (fB_bd (n + 2) m) (fA_bd (n + 2) m) (R.sa m) (R.sb m (Nat.succ_ne_zero _)) iC iS (R.a m) (R.b m (Nat.succ_ne_zero _))
  have J := dia_at hc hs (fJ_bd (n + 2)) (R.sa (n + 1)) iC iS (R.a (n + 1))
  have h (m : Nat) : In3 ((rowI C S (n + 2)).1.getD m z3) (tri c s (n + 2) m) := by
    show In3 ((tab (n + 3) _).getD m z3) (tri c s (n + 2) m)
    rw [tab_get]
    unfold tri
    by_cases hm : m < n + 2
    · rw [if_pos (by omega), if_pos hm, if_pos hm]
      obtain ⟨z, e, i⟩ := E m
      have e' : entS false c s (fB (n + 2) m) (fA (n + 2) m) (tri c s (n + 1) m) (tri c s n m) = (z, false) := e
      rw [e']; exact i
    · by_cases h1 : m = n + 2
      · rw [if_pos (by omega), if_neg hm, if_neg hm, if_pos h1]
        obtain ⟨z, e, i⟩ := J
        rw [e]; exact i
      · rw [if_neg (by omega), if_neg hm, if_neg h1]; exact z3_in
  refine ⟨⟨h, fun m _ => R.a m, fun m => ?_, fun m _ => R.sa m⟩, fun m => ?_, ?_⟩
  · by_cases hm : m < n + 3
    · refine small3_get (X := (rowI C S (n + 2)).1.getD m z3) ?_ (h m)
      rw [List.all_eq_true] at ok
      apply ok
      show (tab (n + 3) _).getD m z3 ∈ tab (n + 3) _
      rw [tab_get, if_pos hm]
      exact List.mem_map.2 ⟨m, List.mem_range.2 hm, rfl⟩
    · unfold tri
      rw [if_neg (by omega), if_neg (by omega)]
      exact Sm3.zero
  · obtain ⟨z, e, _⟩ := E m
    have e' : entS false c s (fB (n + 2) m) (fA (n + 2) m) (tri c s (n + 1) m) (tri c s n m) = (z, false) := e
    rw [e']
  · obtain ⟨z, e, _⟩ := J
    rw [e]
end Go.Proofs.YtoadcnhcfodkgaaGreatDoor
