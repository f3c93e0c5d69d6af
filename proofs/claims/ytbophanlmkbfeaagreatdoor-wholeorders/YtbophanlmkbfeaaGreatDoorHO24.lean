/-
A part.
A part.
A part.
-/
import Derived.Test.YtbophanlmkbfeaaGreatDoorHO23
namespace Go.Proofs.YtbophanlmkbfeaaGreatDoor
def fA : Nat → Nat → Int
 | 2, 0 => 549755813888
 | 3, 0 => 733007751851
 | 3, 1 => 673310613577
 | 4, 0 => 824633720832
 | 4, 1 => 802969761030
 | 4, 2 => 709731703890
 | 5, 0 => 879609302221
 | 5, 1 => 869240264403
 | 5, 2 => 831152665920
 | 5, 3 => 727258582680
 | 6, 0 => 916259689813
 | 6, 1 => 910482127710
 | 6, 2 => 890706219313
 | 6, 3 => 846404445698
 | 6, 4 => 737574822528
 | _, _ => 0
def fB : Nat → Nat → Int
 | 1, 0 => 1099511627776
 | 2, 0 => 1649267441664
 | 2, 1 => 1904410002822
 | 3, 0 => 1832519379627
 | 3, 1 => 1943680319985
 | 3, 2 => 2458582741759
 | 4, 0 => 1924145348608
 | 4, 1 => 1987248770891
 | 4, 2 => 2221811669958
 | 4, 3 => 2909034330719
 | 5, 0 => 1979120929997
 | 5, 1 => 2019931840731
 | 5, 2 => 2159397969329
 | 5, 3 => 2473901162496
 | 5, 4 => 3298534883328
 | 6, 0 => 2015771317589
 | 6, 1 => 2044365246745
 | 6, 2 => 2138048351983
 | 6, 3 => 2327612225670
 | 6, 4 => 2704441015935
 | 6, 5 => 3646667521967
 | _, _ => 0
def fJ : Nat → Int
 | 2 => 952205001410
 | 3 => 1003712201286
 | 4 => 1028498950977
 | 5 => 1043088317283
 | 6 => 1052702237726
 | _ => 0
theorem fA_bd (n m : Nat) : Ab (fA n m) 4398046511104 := by unfold fA; split <;> exact ⟨by decide, by decide⟩
theorem fB_bd (n m : Nat) : Ab (fB n m) 4398046511104 := by unfold fB; split <;> exact ⟨by decide, by decide⟩
theorem fJ_bd (n : Nat) : Ab (fJ n) 4398046511104 := by unfold fJ; split <;> exact ⟨by decide, by decide⟩
def entS (bad : Bool) (c s b a : Int) (x y : V3) : V3 × Bool :=
 let r1 := mulS bad c x.1; let r2 := mulS r1.2 b r1.1; let r3 := mulS r2.2 a y.1; let r4 := subS r3.2 r2.1 r3.1
 let r5 := mulS r4.2 c x.2.1; let r6 := mulS r5.2 s x.1; let r7 := subS r6.2 r5.1 r6.1; let r8 := mulS r7.2 b r7.1; let r9 := mulS r8.2 a y.2.1; let r10 := subS r9.2 r8.1 r9.1
 let r11 := mulS r10.2 c x.2.2; let r12 := mulS r11.2 b r11.1; let r13 := mulS r12.2 a y.2.2; let r14 := subS r13.2 r12.1 r13.1
 ((r4.1, r10.1, r14.1), r14.2)
def diaS (bad : Bool) (c s j : Int) (x : V3) : V3 × Bool :=
 let r1 := mulS bad s x.1; let r2 := mulS r1.2 j r1.1
 let r3 := mulS r2.2 s x.2.1; let r4 := mulS r3.2 c x.1; let r5 := addS r4.2 r3.1 r4.1; let r6 := mulS r5.2 j r5.1
 let r7 := mulS r6.2 s x.2.2; let r8 := mulS r7.2 j r7.1
 ((r2.1, r6.1, r8.1), r8.2)
abbrev T3 := Iv × Iv × Iv
structure In3 (X : T3) (x : V3) : Prop where
 p : In X.1 x.1
 d : In X.2.1 x.2.1
 q : In X.2.2 x.2.2
def entI (C S : Iv) (b a : Int) (x y : T3) : T3 :=
 (isub (imul (pt b) (imul C x.1)) (imul (pt a) y.1), isub (imul (pt b) (isub (imul C x.2.1) (imul S x.1))) (imul (pt a) y.2.1), isub (imul (pt b) (imul C x.2.2)) (imul (pt a) y.2.2))
def diaI (C S : Iv) (j : Int) (x : T3) : T3 := (imul (pt j) (imul S x.1), imul (pt j) (iadd (imul S x.2.1) (imul C x.1)), imul (pt j) (imul S x.2.2))
structure Sm3 (x : V3) : Prop where
 p : Ab x.1 17592186044416
 d : Ab x.2.1 17592186044416
 q : Ab x.2.2 17592186044416
theorem ent_at {c s b a : Int} {x y : V3} {C S : Iv} {X Y : T3} (hc : Ab c 2199023255552) (hs : Ab s 2199023255552) (hb : Ab b 4398046511104) (ha : Ab a 4398046511104) (sx : Sm3 x) (sy : Sm3 y) (iC : In C c) (iS : In S s) (ix : In3 X x) (iy : In3 Y y) :
    ∃ z, entS false c s b a x y = (z, false) ∧ In3 (entI C S b a X Y) z := by
 obtain ⟨v1, h1, q1, b1⟩ := mul_x (B := 35184372088833) hc sx.p (by decide) (by decide) (by decide) (by decide)
 obtain ⟨v2, h2, q2, b2⟩ := mul_x (B := 140737488355333) hb b1 (by decide) (by decide) (by decide) (by decide)
 obtain ⟨v3, h3, q3, b3⟩ := mul_x (B := 70368744177665) ha sy.p (by decide) (by decide) (by decide) (by decide)
 have h4 := sub_near b2 b3 (by decide) (by decide) (by decide)
 obtain ⟨v5, h5, q5, b5⟩ := mul_x (B := 35184372088833) hc sx.d (by decide) (by decide) (by decide) (by decide)
 obtain ⟨v6, h6, q6, b6⟩ := mul_x (B := 35184372088833) hs sx.p (by decide) (by decide) (by decide) (by decide)
 have h7 := sub_near b5 b6 (by decide) (by decide) (by decide)
 obtain ⟨v8, h8, q8, b8⟩ := mul_x (B := 281474976710666) hb (b5.sub b6) (by decide) (by decide) (by decide) (by decide)
 obtain ⟨v9, h9, q9, b9⟩ := mul_x (B := 70368744177665) ha sy.d (by decide) (by decide) (by decide) (by decide)
 have h10 := sub_near b8 b9 (by decide) (by decide) (by decide)
 obtain ⟨v11, h11, q11, b11⟩ := mul_x (B := 35184372088833) hc sx.q (by decide) (by decide) (by decide) (by decide)
 obtain ⟨v12, h12, q12, b12⟩ := mul_x (B := 140737488355333) hb b11 (by decide) (by decide) (by decide) (by decide)
 obtain ⟨v13, h13, q13, b13⟩ := mul_x (B := 70368744177665) ha sy.q (by decide) (by decide) (by decide) (by decide)
 have h14 := sub_near b12 b13 (by decide) (by decide) (by decide)
 refine ⟨(v2 - v3, v8 - v9, v12 - v13), ?_, ?_, ?_, ?_⟩
 ·unfold entS
  simp only [h1, h2, h3, h4, h5, h6, h7, h8, h9, h10, h11, h12, h13, h14]
 ·exact (round_in (pt_in b) (round_in iC ix.p q1) q2).sub (round_in (pt_in a) iy.p q3)
 ·exact (round_in (pt_in b) ((round_in iC ix.d q5).sub (round_in iS ix.p q6)) q8).sub (round_in (pt_in a) iy.d q9)
 ·exact (round_in (pt_in b) (round_in iC ix.q q11) q12).sub (round_in (pt_in a) iy.q q13)
theorem dia_at {c s j : Int} {x : V3} {C S : Iv} {X : T3} (hc : Ab c 2199023255552) (hs : Ab s 2199023255552) (hj : Ab j 4398046511104) (sx : Sm3 x) (iC : In C c) (iS : In S s) (ix : In3 X x) :
    ∃ z, diaS false c s j x = (z, false) ∧ In3 (diaI C S j X) z := by
 obtain ⟨v1, h1, q1, b1⟩ := mul_x (B := 35184372088833) hs sx.p (by decide) (by decide) (by decide) (by decide)
 obtain ⟨v2, h2, q2, b2⟩ := mul_x (B := 140737488355333) hj b1 (by decide) (by decide) (by decide) (by decide)
 obtain ⟨v3, h3, q3, b3⟩ := mul_x (B := 35184372088833) hs sx.d (by decide) (by decide) (by decide) (by decide)
 obtain ⟨v4, h4, q4, b4⟩ := mul_x (B := 35184372088833) hc sx.p (by decide) (by decide) (by decide) (by decide)
 have h5 := add_near b3 b4 (by decide) (by decide) (by decide)
 obtain ⟨v6, h6, q6, b6⟩ := mul_x (B := 281474976710666) hj (b3.add b4) (by decide) (by decide) (by decide) (by decide)
 obtain ⟨v7, h7, q7, b7⟩ := mul_x (B := 35184372088833) hs sx.q (by decide) (by decide) (by decide) (by decide)
 obtain ⟨v8, h8, q8, b8⟩ := mul_x (B := 140737488355333) hj b7 (by decide) (by decide) (by decide) (by decide)
 refine ⟨(v2, v6, v8), ?_, ?_, ?_, ?_⟩
 ·unfold diaS
  simp only [h1, h2, h3, h4, h5, h6, h7, h8]
 ·exact round_in (pt_in j) (round_in iS ix.p q1) q2
 ·exact round_in (pt_in j) ((round_in iS ix.d q3).add (round_in iC ix.p q4)) q6
 ·exact round_in (pt_in j) (round_in iS ix.q q7) q8
def tri (c s : Int) : Nat → Nat → V3
 | 0, m => if m = 0 then (1099511627776, 0, 0) else (0, 0, 0)
 | 1, m => if m = 0 then (entS false c s (fB 1 0) (fA 1 0) (1099511627776, 0, 0) (0, 0, 0)).1 else if m = 1 then (s, c, 1099511627776) else (0, 0, 0)
 | n + 2, m => if m < n + 2 then (entS false c s (fB (n + 2) m) (fA (n + 2) m) (tri c s (n + 1) m) (tri c s n m)).1 else if m = n + 2 then (diaS false c s (fJ (n + 2)) (tri c s (n + 1) (n + 1))).1 else (0, 0, 0)
def z3 : T3 := (pt 0, pt 0, pt 0)
def tab (k : Nat) (f : Nat → T3) : List T3 := (List.range k).map f
theorem tab_get (k : Nat) (f : Nat → T3) (m : Nat) : (tab k f).getD m z3 = if m < k then f m else z3 := by
 unfold tab
 by_cases h : m < k
 ·rw [if_pos h]; simp [List.getD, h]
 ·rw [if_neg h]; simp [List.getD, h]
def rowI (C S : Iv) : Nat → List T3 × List T3
 | 0 => (tab 1 (fun _ => (pt 1099511627776, pt 0, pt 0)), [])
 | 1 => (tab 2 (fun m => if m = 0 then entI C S (fB 1 0) (fA 1 0) (pt 1099511627776, pt 0, pt 0) z3 else (S, C, pt 1099511627776)), tab 1 (fun _ => (pt 1099511627776, pt 0, pt 0)))
 | n + 2 => (tab (n + 3) (fun m => if m < n + 2 then entI C S (fB (n + 2) m) (fA (n + 2) m) ((rowI C S (n + 1)).1.getD m z3) ((rowI C S (n + 1)).2.getD m z3) else diaI C S (fJ (n + 2)) ((rowI C S (n + 1)).1.getD (n + 1) z3)), (rowI C S (n + 1)).1)
theorem rowI0 (C S : Iv) : (rowI C S 0).1 = tab 1 (fun _ => (pt 1099511627776, pt 0, pt 0)) := by rw [rowI]
theorem rowI1 (C S : Iv) : (rowI C S 1).1 = tab 2 (fun m => if m = 0 then entI C S (fB 1 0) (fA 1 0) (pt 1099511627776, pt 0, pt 0) z3 else (S, C, pt 1099511627776)) := by rw [rowI]
theorem rowI10 (C S : Iv) : (rowI C S 1).2 = (rowI C S 0).1 := by rw [rowI, rowI]
def small3 (X : T3) : Bool := decide (mag X.1 ≤ 17592186044416) && decide (mag X.2.1 ≤ 17592186044416) && decide (mag X.2.2 ≤ 17592186044416)
theorem small3_get {X : T3} {x : V3} (h : small3 X = true) (i : In3 X x) : Sm3 x := by
 unfold small3 at h
 simp only [Bool.and_eq_true, decide_eq_true_eq] at h
 exact ⟨mag_ab i.p h.1.1, mag_ab i.d h.1.2, mag_ab i.q h.2⟩
theorem z3_in : In3 z3 (0, 0, 0) := ⟨pt_in 0, pt_in 0, pt_in 0⟩
theorem one3_in : In3 (pt 1099511627776, pt 0, pt 0) (1099511627776, 0, 0) := ⟨pt_in _, pt_in 0, pt_in 0⟩
theorem Sm3.zero : Sm3 (0, 0, 0) := ⟨⟨by decide, by decide⟩, ⟨by decide, by decide⟩, ⟨by decide, by decide⟩⟩
theorem Sm3.one : Sm3 (1099511627776, 0, 0) := ⟨⟨by decide, by decide⟩, ⟨by decide, by decide⟩, ⟨by decide, by decide⟩⟩
structure RowOK (c s : Int) (L : List T3 × List T3) (n : Nat) : Prop where
 a : ∀ m, In3 (L.1.getD m z3) (tri c s n m)
 b : ∀ m, n ≠ 0 → In3 (L.2.getD m z3) (tri c s (n - 1) m)
 sa : ∀ m, Sm3 (tri c s n m)
 sb : ∀ m, n ≠ 0 → Sm3 (tri c s (n - 1) m)
theorem row0 (c s : Int) (C S : Iv) : RowOK c s (rowI C S 0) 0 := by
 have h (m : Nat) : In3 ((rowI C S 0).1.getD m z3) (tri c s 0 m) := by
  rw [rowI0, tab_get]
  unfold tri
  by_cases hm : m = 0
  ·rw [if_pos (by omega), if_pos hm]; exact one3_in
  ·rw [if_neg (by omega), if_neg hm]; exact z3_in
 have k (m : Nat) : Sm3 (tri c s 0 m) := by
  unfold tri
  split
  ·exact Sm3.one
  ·exact Sm3.zero
 exact ⟨h, fun m e => absurd rfl e, k, fun m e => absurd rfl e⟩
theorem row1 {c s : Int} {C S : Iv} (hc : Ab c 2199023255552) (hs : Ab s 2199023255552) (iC : In C c) (iS : In S s) (ok : (rowI C S 1).1.all small3 = true) :
    RowOK c s (rowI C S 1) 1 ∧ (entS false c s (fB 1 0) (fA 1 0) (1099511627776, 0, 0) (0, 0, 0)).2 = false := by
 obtain ⟨z, e, i⟩ := ent_at (x := (1099511627776, 0, 0)) (y := (0, 0, 0)) hc hs (fB_bd 1 0) (fA_bd 1 0) Sm3.one Sm3.zero iC iS one3_in z3_in
 have h (m : Nat) : In3 ((rowI C S 1).1.getD m z3) (tri c s 1 m) := by
  rw [rowI1, tab_get]
  unfold tri
  by_cases hm : m = 0
  ·rw [if_pos (by omega), if_pos hm, if_pos hm, e]; exact i
  ·by_cases h1 : m = 1
   ·rw [if_pos (by omega), if_neg hm, if_neg hm, if_pos h1]; exact ⟨iS, iC, pt_in _⟩
   ·rw [if_neg (by omega), if_neg hm, if_neg h1]; exact z3_in
 refine ⟨⟨h, fun m _ => by rw [rowI10]; exact (row0 c s C S).a m, fun m => ?_, fun m _ => (row0 c s C S).sa m⟩, by rw [e]⟩
 by_cases hm : m < 2
 ·refine small3_get (X := (rowI C S 1).1.getD m z3) ?_ (h m)
  rw [List.all_eq_true] at ok
  apply ok
  rw [rowI1, tab_get, if_pos hm]
  exact List.mem_map.2 ⟨m, List.mem_range.2 hm, rfl⟩
 ·unfold tri
  rw [if_neg (by omega), if_neg (by omega)]
  exact Sm3.zero
theorem row2 {c s : Int} {C S : Iv} {n : Nat} (hc : Ab c 2199023255552) (hs : Ab s 2199023255552) (iC : In C c) (iS : In S s) (R : RowOK c s (rowI C S (n + 1)) (n + 1)) (ok : (rowI C S (n + 2)).1.all small3 = true) :
    RowOK c s (rowI C S (n + 2)) (n + 2) ∧ (∀ m, (entS false c s (fB (n + 2) m) (fA (n + 2) m) (tri c s (n + 1) m) (tri c s n m)).2 = false) ∧ (diaS false c s (fJ (n + 2)) (tri c s (n + 1) (n + 1))).2 = false := by
 have E (m : Nat) := ent_at hc hs (fB_bd (n + 2) m) (fA_bd (n + 2) m) (R.sa m) (R.sb m (Nat.succ_ne_zero _)) iC iS (R.a m) (R.b m (Nat.succ_ne_zero _))
 have J := dia_at hc hs (fJ_bd (n + 2)) (R.sa (n + 1)) iC iS (R.a (n + 1))
 have h (m : Nat) : In3 ((rowI C S (n + 2)).1.getD m z3) (tri c s (n + 2) m) := by
  show In3 ((tab (n + 3) _).getD m z3) (tri c s (n + 2) m)
  rw [tab_get]
  unfold tri
  by_cases hm : m < n + 2
  ·rw [if_pos (by omega), if_pos hm, if_pos hm]
   obtain ⟨z, e, i⟩ := E m
   have e' : entS false c s (fB (n + 2) m) (fA (n + 2) m) (tri c s (n + 1) m) (tri c s n m) = (z, false) := e
   rw [e']; exact i
  ·by_cases h1 : m = n + 2
   ·rw [if_pos (by omega), if_neg hm, if_neg hm, if_pos h1]
    obtain ⟨z, e, i⟩ := J
    rw [e]; exact i
   ·rw [if_neg (by omega), if_neg hm, if_neg h1]; exact z3_in
 refine ⟨⟨h, fun m _ => R.a m, fun m => ?_, fun m _ => R.sa m⟩, fun m => ?_, ?_⟩
 ·by_cases hm : m < n + 3
  ·refine small3_get (X := (rowI C S (n + 2)).1.getD m z3) ?_ (h m)
   rw [List.all_eq_true] at ok
   apply ok
   show (tab (n + 3) _).getD m z3 ∈ tab (n + 3) _
   rw [tab_get, if_pos hm]
   exact List.mem_map.2 ⟨m, List.mem_range.2 hm, rfl⟩
  ·unfold tri
   rw [if_neg (by omega), if_neg (by omega)]
   exact Sm3.zero
 ·obtain ⟨z, e, _⟩ := E m
  have e' : entS false c s (fB (n + 2) m) (fA (n + 2) m) (tri c s (n + 1) m) (tri c s n m) = (z, false) := e
  rw [e']
 ·obtain ⟨z, e, _⟩ := J
  rw [e]
end Go.Proofs.YtbophanlmkbfeaaGreatDoor
namespace Go.Proofs.YtbophanlmkbfeaaGreatDoor
def fG : Nat → Nat → Int
 | 1, 0 => -32270666275226
 | 1, 1 => -1550641248652
 | 2, 0 => -2810571622921
 | 2, 1 => 3244548862404
 | 2, 2 => 1812764820714
 | 3, 0 => 1496325374240
 | 3, 1 => -2643445855499
 | 3, 2 => 1367572562628
 | 3, 3 => 498518572034
 | 4, 0 => 983733053371
 | 4, 1 => 879169497570
 | 4, 2 => 61352748830
 | 4, 3 => -309072718568
 | 4, 4 => 13194139533
 | 5, 0 => -256076258109
 | 5, 1 => 405719790649
 | 5, 2 => 205828576720
 | 5, 3 => -152502262773
 | 5, 4 => -156020699981
 | 5, 5 => 22979793021
 | 6, 0 => 70698597666
 | 6, 1 => 70148841852
 | 6, 2 => 84332541850
 | 6, 3 => -127213495334
 | 6, 4 => -44970025576
 | 6, 5 => 16382723254
 | 6, 6 => -66850306969
 | _, _ => 0
def fH : Nat → Nat → Int
 | 1, 1 => 4997830104056
 | 2, 1 => -3445429636799
 | 2, 2 => -895222367335
 | 3, 1 => -62562211620
 | 3, 2 => 261243962760
 | 3, 3 => -604291590626
 | 4, 1 => 306323939498
 | 4, 2 => -147334558122
 | 4, 3 => 233096465089
 | 4, 4 => -412756665067
 | 5, 1 => 49807876738
 | 5, 2 => 241892558111
 | 5, 3 => -135129979054
 | 5, 4 => 47169048832
 | 5, 5 => 116768134870
 | 6, 1 => -20231013951
 | 6, 2 => 18471795347
 | 6, 3 => 53766118598
 | 6, 4 => -65750795341
 | 6, 5 => 11984676743
 | 6, 6 => 80044446502
 | _, _ => 0
def fGy : Nat → Nat → Int
 | 1, 0 => 13853846510
 | 1, 1 => 10995116278
 | 2, 0 => -12314530231
 | 2, 1 => -5827411627
 | 2, 2 => -9125946511
 | _, _ => 0
def fHy : Nat → Nat → Int
 | 1, 1 => -23639499997
 | 2, 1 => -30016667438
 | 2, 2 => -12204579068
 | _, _ => 0
def gI (n m : Nat) : Iv := if n ≤ 2 then (fG n m + min 0 (5 * fGy n m), fG n m + max 0 (5 * fGy n m)) else pt (fG n m)
def hI (n m : Nat) : Iv := if n ≤ 2 then (fH n m + min 0 (5 * fHy n m), fH n m + max 0 (5 * fHy n m)) else pt (fH n m)
def tS : Int → Nat → Int
 | q, 0 => (mulS false q q).1
 | q, n + 1 => (mulS false (tS q n) q).1
def tI (Q : Iv) : Nat → Iv
 | 0 => imul Q Q
 | n + 1 => imul (tI Q n) Q
def tB : Nat → Int
 | 0 => 1241245548545
 | 1 => 1318823395330
 | 2 => 1401249857539
 | 3 => 1488827973636
 | 4 => 1581879721989
 | 5 => 1680747204614
 | _ => 1785793904903
theorem tB_next (n : Nat) (h : n < 6) : tB n * 1168231104512 + 549755813888 ≤ tB (n + 1) * 1099511627776 ∧ tB n ≤ 2199023255552 := by
 have six : n = 0 ∨ n = 1 ∨ n = 2 ∨ n = 3 ∨ n = 4 ∨ n = 5 := by omega
 rcases six with rfl | rfl | rfl | rfl | rfl | rfl <;> decide
theorem tB_le (n : Nat) : tB n ≤ 2199023255552 := by unfold tB; split <;> decide
theorem t_at {q : Int} {Q : Iv} (q0 : 0 ≤ q) (q1 : q ≤ 1168231104512) (iQ : In Q q) : ∀ n, n ≤ 6 → In (tI Q n) (tS q n) ∧ 0 ≤ tS q n ∧ tS q n ≤ tB n
 | 0, _ => by
  obtain ⟨m, e, r, _⟩ := mul_x (a := q) (b := q) (K := 1168231104512) (L := 1168231104512) (B := 2199023255552) ⟨by omega, q1⟩ ⟨by omega, q1⟩ (by decide) (by decide) (by decide) (by decide)
  have p := Int.mul_nonneg q0 q0
  have p2 := Int.mul_le_mul q1 q1 q0 (by decide)
  unfold tS tI
  rw [e]
  have := r.lo; have := r.hi
  exact ⟨round_in iQ iQ r, by show 0 ≤ m; omega, by show m ≤ 1241245548545; omega⟩
 | n + 1, hn => by
  obtain ⟨i, t0, t1⟩ := t_at q0 q1 iQ n (by omega)
  have T := tB_next n (by omega)
  obtain ⟨m, e, r, _⟩ := mul_x (a := tS q n) (b := q) (K := 2199023255552) (L := 1168231104512) (B := 2400000000000) ⟨by omega, by omega⟩ ⟨by omega, q1⟩ (by decide) (by decide) (by decide) (by decide)
  have p := Int.mul_nonneg t0 q0
  have p2 := Int.mul_le_mul t1 q1 q0 (by omega)
  unfold tS tI
  rw [e]
  have := r.lo; have := r.hi
  exact ⟨round_in i iQ r, by show 0 ≤ m; omega, by show m ≤ _; omega⟩
theorem by_order (w g h : Nat → Nat → Int) (C S : Nat → Int) (N M : Nat) :
    sm (fun n => sm (fun m => w n m * (g n m * C m + h n m * S m)) M) N = sm (fun m => sm (fun n => w n m * g n m) N * C m + sm (fun n => w n m * h n m) N * S m) M := by
 rw [sm_trn]
 apply sm_eq
 intro m _
 rw [Int.mul_comm (sm (fun n => w n m * g n m) N), Int.mul_comm (sm (fun n => w n m * h n m) N), ← sm_mul, ← sm_mul, ← sm_add]
 apply sm_eq
 intro n _
 grind
theorem sq_le {x y : Int} (h : x * x ≤ y * y) (h0 : 0 ≤ y) : Ab x y := by
 refine ⟨?_, ?_⟩
 ·apply Classical.byContradiction
  intro g
  have := Int.mul_lt_mul_of_pos_right (show y < -x by omega) (show 0 < -x by omega)
  have := Int.mul_le_mul_of_nonneg_left (show y ≤ -x by omega) h0
  rw [Int.neg_mul_neg] at *
  omega
 ·apply Classical.byContradiction
  intro g
  have := Int.mul_lt_mul_of_pos_right (show y < x by omega) (show 0 < x by omega)
  have := Int.mul_le_mul_of_nonneg_left (show y ≤ x by omega) h0
  omega
theorem ab_sq {x K : Int} (h : Ab x K) : x * x ≤ K * K := (h.mul h).hi
theorem wave {A B C S H k a b K : Int} (k0 : 0 ≤ k) (hA : Ab A (a * k)) (hB : Ab B (b * k)) (hH : a * a + b * b ≤ H * H) (H0 : 0 ≤ H) (K0 : 0 ≤ K) (cs : C * C + S * S ≤ K * K) : Ab (A * C + B * S) (H * k * K) := by
 apply sq_le
 ·have p1 := ab_sq hA
  have p2 := ab_sq hB
  have c := sq_nonneg (A * S - B * C)
  have e : (A * C + B * S) * (A * C + B * S) = (A * A + B * B) * (C * C + S * S) - (A * S - B * C) * (A * S - B * C) := by grind
  have s0 : 0 ≤ C * C + S * S := by have := sq_nonneg C; have := sq_nonneg S; omega
  have q1 : A * A + B * B ≤ H * k * (H * k) := by
   have := Int.mul_le_mul_of_nonneg_right hH (Int.mul_nonneg k0 k0)
   have e1 : (a * a + b * b) * (k * k) = a * k * (a * k) + b * k * (b * k) := by grind
   have e2 : H * H * (k * k) = H * k * (H * k) := by grind
   omega
  have q2 := Int.mul_le_mul q1 cs s0 (Int.mul_nonneg (Int.mul_nonneg H0 k0) (Int.mul_nonneg H0 k0))
  have e3 : H * k * (H * k) * (K * K) = H * k * K * (H * k * K) := by grind
  omega
 ·exact Int.mul_nonneg (Int.mul_nonneg H0 k0) K0
def hyp (a b : Int) : Int := ((a * a + b * b) / (max a b + 3 * min a b / 8 + 1) + (max a b + 3 * min a b / 8 + 1)) / 2 + 1
def hypOK (a b : Int) : Bool := decide (a * a + b * b ≤ hyp a b * hyp a b) && decide (0 ≤ hyp a b)
section
variable (C S Q : Iv)
def uA (m : Nat) : Iv := iacc (fun n => ims ((n : Int) + 2) (imul (imul (tI Q (n + 1)) ((rowI C S (n + 1)).1.getD m z3).1) (gI (n + 1) m))) 6
def uB (m : Nat) : Iv := iacc (fun n => ims ((n : Int) + 2) (imul (imul (tI Q (n + 1)) ((rowI C S (n + 1)).1.getD m z3).1) (hI (n + 1) m))) 6
def sA (m : Nat) : Iv := iacc (fun n => imul (imul (tI Q (n + 1)) ((rowI C S (n + 1)).1.getD m z3).2.1) (gI (n + 1) m)) 6
def sB (m : Nat) : Iv := iacc (fun n => imul (imul (tI Q (n + 1)) ((rowI C S (n + 1)).1.getD m z3).2.1) (hI (n + 1) m)) 6
def eA (m : Nat) : Iv := iacc (fun n => ims (m : Int) (imul (imul (tI Q (n + 1)) ((rowI C S (n + 1)).1.getD m z3).2.2) (gI (n + 1) m))) 6
def eB (m : Nat) : Iv := iacc (fun n => ims (m : Int) (imul (imul (tI Q (n + 1)) ((rowI C S (n + 1)).1.getD m z3).2.2) (hI (n + 1) m))) 6
def most (A B : Nat → Iv) : Int := sm (fun m => hyp (mag (A m)) (mag (B m))) 7
def mostOK (A B : Nat → Iv) : Bool := (List.range 7).all fun m => hypOK (mag (A m)) (mag (B m))
def rowsOK : Bool := (List.range 6).all fun n => (rowI C S (n + 1)).1.all small3
def vA (r d : Int) (m : Nat) : Iv := isub (ims r (uA C S Q m)) (ims d (sA C S Q m))
def vB (r d : Int) (m : Nat) : Iv := isub (ims r (uB C S Q m)) (ims d (sB C S Q m))
def boxOK (r d : Int) : Bool :=
 rowsOK C S && mostOK (uA C S Q) (uB C S Q) && mostOK (sA C S Q) (sB C S Q) && mostOK (eA C S Q) (eB C S Q) && mostOK (vA C S Q r d) (vB C S Q r d) &&
 decide (most (uA C S Q) (uB C S Q) * most (uA C S Q) (uB C S Q) + most (sA C S Q) (sB C S Q) * most (sA C S Q) (sB C S Q) + most (eA C S Q) (eB C S Q) * most (eA C S Q) (eB C S Q) ≤ 9575901417167477692847620096) &&
 decide (3100 * 1099511627776 * 1099511627776 ≤ -(vA C S Q r d 0).2 * 1099511627776 - (most (vA C S Q r d) (vB C S Q r d) - hyp (mag (vA C S Q r d 0)) (mag (vB C S Q r d 0))) * 1099528404992) &&
 decide (r * r + d * d ≤ 1000000)
end
end Go.Proofs.YtbophanlmkbfeaaGreatDoor
namespace Go.Proofs.YtbophanlmkbfeaaGreatDoor
theorem sm_ab {f F : Nat → Int} : ∀ {n : Nat}, (∀ k, k < n → Ab (f k) (F k)) → Ab (sm f n) (sm F n)
 | 0, _ => ⟨by show -(0 : Int) ≤ 0; decide, by show (0 : Int) ≤ 0; decide⟩
 | n + 1, h => (sm_ab fun k hk => h k (Nat.lt_succ_of_lt hk)).add (h n (Nat.lt_succ_self n))
structure Put (g h : Nat → Nat → Int) (C S : Nat → Int) : Prop where
 g : ∀ n m, In (gI n m) (g n m)
 h : ∀ n m, In (hI n m) (h n m)
 c : ∀ m, m < 7 → C m * C m + S m * S m ≤ 1099528404992 * 1099528404992
 c0 : C 0 = 1099511627776
 s0 : S 0 = 0
section
variable (c s q : Int) (g h : Nat → Nat → Int) (C S : Nat → Int)
def wU (n m : Nat) : Int := ((n : Int) + 2) * (tS q (n + 1) * (tri c s (n + 1) m).1)
def wS (n m : Nat) : Int := tS q (n + 1) * (tri c s (n + 1) m).2.1
def wE (n m : Nat) : Int := (m : Int) * (tS q (n + 1) * (tri c s (n + 1) m).2.2)
def UPx : Int := sm (fun n => sm (fun m => wU c s q n m * (g (n + 1) m * C m + h (n + 1) m * S m)) 7) 6
def SOx : Int := sm (fun n => sm (fun m => wS c s q n m * (g (n + 1) m * C m + h (n + 1) m * S m)) 7) 6
def EAx : Int := sm (fun n => sm (fun m => wE c s q n m * (g (n + 1) m * S m - h (n + 1) m * C m)) 7) 6
end
structure Lies (C S Q : Iv) (c s q : Int) : Prop where
 ic : In C c
 is_ : In S s
 iq : In Q q
 cb : Ab c 2199023255552
 sb : Ab s 2199023255552
 q0 : 0 ≤ q
 q1 : q ≤ 1168231104512
 rows : ∀ n, n < 6 → ∀ m, In3 ((rowI C S (n + 1)).1.getD m z3) (tri c s (n + 1) m)
 sm : ∀ n, n < 6 → ∀ m, Sm3 (tri c s (n + 1) m)
 ent : ∀ n, n < 6 → ∀ m, m < n + 1 → ∃ x, entS false c s (fB (n + 1) m) (fA (n + 1) m) (tri c s n m) (if n = 0 then (0, 0, 0) else tri c s (n - 1) m) = (tri c s (n + 1) m, x) ∧ x = false
 dia : ∀ n, n < 5 → diaS false c s (fJ (n + 2)) (tri c s (n + 1) (n + 1)) = (tri c s (n + 2) (n + 2), false)
theorem lies_at {C S Q : Iv} {c s q : Int} (iC : In C c) (iS : In S s) (iQ : In Q q) (hc : Ab c 2199023255552) (hs : Ab s 2199023255552) (q0 : 0 ≤ q) (q1 : q ≤ 1168231104512) (ok : rowsOK C S = true) : Lies C S Q c s q := by
 unfold rowsOK at ok
 rw [List.all_eq_true] at ok
 have o (n : Nat) (hn : n < 6) : (rowI C S (n + 1)).1.all small3 = true := ok n (List.mem_range.2 hn)
 obtain ⟨r1, e1⟩ := row1 hc hs iC iS (o 0 (by decide))
 obtain ⟨r2, e2, d2⟩ := row2 (n := 0) hc hs iC iS r1 (o 1 (by decide))
 obtain ⟨r3, e3, d3⟩ := row2 (n := 1) hc hs iC iS r2 (o 2 (by decide))
 obtain ⟨r4, e4, d4⟩ := row2 (n := 2) hc hs iC iS r3 (o 3 (by decide))
 obtain ⟨r5, e5, d5⟩ := row2 (n := 3) hc hs iC iS r4 (o 4 (by decide))
 obtain ⟨r6, e6, d6⟩ := row2 (n := 4) hc hs iC iS r5 (o 5 (by decide))
 have six (n : Nat) (hn : n < 6) : n = 0 ∨ n = 1 ∨ n = 2 ∨ n = 3 ∨ n = 4 ∨ n = 5 := by omega
 have go (n m : Nat) (hm : m < n + 2) (e : (entS false c s (fB (n + 2) m) (fA (n + 2) m) (tri c s (n + 1) m) (tri c s n m)).2 = false) : entS false c s (fB (n + 2) m) (fA (n + 2) m) (tri c s (n + 1) m) (tri c s n m) = (tri c s (n + 2) m, false) := by
  rw [show tri c s (n + 2) m = (entS false c s (fB (n + 2) m) (fA (n + 2) m) (tri c s (n + 1) m) (tri c s n m)).1 by (conv => lhs; unfold tri); rw [if_pos hm]]
  exact Prod.ext rfl e
 have gd (n : Nat) (e : (diaS false c s (fJ (n + 2)) (tri c s (n + 1) (n + 1))).2 = false) : diaS false c s (fJ (n + 2)) (tri c s (n + 1) (n + 1)) = (tri c s (n + 2) (n + 2), false) := by
  rw [show tri c s (n + 2) (n + 2) = (diaS false c s (fJ (n + 2)) (tri c s (n + 1) (n + 1))).1 by (conv => lhs; unfold tri); rw [if_neg (by omega), if_pos rfl]]
  exact Prod.ext rfl e
 refine ⟨iC, iS, iQ, hc, hs, q0, q1, ?_, ?_, ?_, ?_⟩
 ·intro n hn
  rcases six n hn with rfl | rfl | rfl | rfl | rfl | rfl
  ·exact r1.a
  ·exact r2.a
  ·exact r3.a
  ·exact r4.a
  ·exact r5.a
  ·exact r6.a
 ·intro n hn
  rcases six n hn with rfl | rfl | rfl | rfl | rfl | rfl
  ·exact r1.sa
  ·exact r2.sa
  ·exact r3.sa
  ·exact r4.sa
  ·exact r5.sa
  ·exact r6.sa
 ·intro n hn m hm
  refine ⟨false, ?_, rfl⟩
  rcases six n hn with rfl | rfl | rfl | rfl | rfl | rfl
  ·obtain rfl : m = 0 := by omega
   rw [if_pos rfl, show tri c s 0 0 = (1099511627776, 0, 0) by unfold tri; rfl, show tri c s (0 + 1) 0 = (entS false c s (fB 1 0) (fA 1 0) (1099511627776, 0, 0) (0, 0, 0)).1 by unfold tri; rfl]
   exact Prod.ext rfl e1
  ·rw [if_neg (by decide)]; exact go 0 m hm (e2 m)
  ·rw [if_neg (by decide)]; exact go 1 m hm (e3 m)
  ·rw [if_neg (by decide)]; exact go 2 m hm (e4 m)
  ·rw [if_neg (by decide)]; exact go 3 m hm (e5 m)
  ·rw [if_neg (by decide)]; exact go 4 m hm (e6 m)
 ·intro n hn
  have five : n = 0 ∨ n = 1 ∨ n = 2 ∨ n = 3 ∨ n = 4 := by omega
  rcases five with rfl | rfl | rfl | rfl | rfl
  ·exact gd 0 d2
  ·exact gd 1 d3
  ·exact gd 2 d4
  ·exact gd 3 d5
  ·exact gd 4 d6
abbrev K80 : Int := 1208925819614629174706176
theorem InK.mul3 {X Y Z : Iv} {x y z : Int} (a : In X x) (b : In Y y) (c : In Z z) : InK K80 (imul (imul X Y) Z) (x * y * z) := InK.mul (k := 1099511627776) (l := 1) (by decide) (by decide) (InK.mul (by decide) (by decide) a b) c
section
variable {C S Q : Iv} {c s q : Int} {g h : Nat → Nat → Int} {Cm Sm : Nat → Int}
theorem uA_in (L : Lies C S Q c s q) (G : ∀ n m, In (gI n m) (g n m)) (m : Nat) : InK K80 (uA C S Q m) (sm (fun n => wU c s q n m * g (n + 1) m) 6) :=
 iacc_in fun n hn => by
  have := ((InK.mul3 (t_at L.q0 L.q1 L.iq (n + 1) (by omega)).1 (L.rows n hn m).p (G (n + 1) m)).ims ((n : Int) + 2))
  unfold wU
  rw [Int.mul_assoc]
  exact this
theorem uB_in (L : Lies C S Q c s q) (G : ∀ n m, In (hI n m) (h n m)) (m : Nat) : InK K80 (uB C S Q m) (sm (fun n => wU c s q n m * h (n + 1) m) 6) :=
 iacc_in fun n hn => by
  have := ((InK.mul3 (t_at L.q0 L.q1 L.iq (n + 1) (by omega)).1 (L.rows n hn m).p (G (n + 1) m)).ims ((n : Int) + 2))
  unfold wU
  rw [Int.mul_assoc]
  exact this
theorem sA_in (L : Lies C S Q c s q) (G : ∀ n m, In (gI n m) (g n m)) (m : Nat) : InK K80 (sA C S Q m) (sm (fun n => wS c s q n m * g (n + 1) m) 6) :=
 iacc_in fun n hn => InK.mul3 (t_at L.q0 L.q1 L.iq (n + 1) (by omega)).1 (L.rows n hn m).d (G (n + 1) m)
theorem sB_in (L : Lies C S Q c s q) (G : ∀ n m, In (hI n m) (h n m)) (m : Nat) : InK K80 (sB C S Q m) (sm (fun n => wS c s q n m * h (n + 1) m) 6) :=
 iacc_in fun n hn => InK.mul3 (t_at L.q0 L.q1 L.iq (n + 1) (by omega)).1 (L.rows n hn m).d (G (n + 1) m)
theorem eA_in (L : Lies C S Q c s q) (G : ∀ n m, In (gI n m) (g n m)) (m : Nat) : InK K80 (eA C S Q m) (sm (fun n => wE c s q n m * g (n + 1) m) 6) :=
 iacc_in fun n hn => by
  have := ((InK.mul3 (t_at L.q0 L.q1 L.iq (n + 1) (by omega)).1 (L.rows n hn m).q (G (n + 1) m)).ims (m : Int))
  unfold wE
  rw [Int.mul_assoc]
  exact this
theorem eB_in (L : Lies C S Q c s q) (G : ∀ n m, In (hI n m) (h n m)) (m : Nat) : InK K80 (eB C S Q m) (sm (fun n => wE c s q n m * h (n + 1) m) 6) :=
 iacc_in fun n hn => by
  have := ((InK.mul3 (t_at L.q0 L.q1 L.iq (n + 1) (by omega)).1 (L.rows n hn m).q (G (n + 1) m)).ims (m : Int))
  unfold wE
  rw [Int.mul_assoc]
  exact this
end
theorem hypOK_get {a b : Int} (h : hypOK a b = true) : a * a + b * b ≤ hyp a b * hyp a b ∧ 0 ≤ hyp a b := by
 unfold hypOK at h
 simp only [Bool.and_eq_true, decide_eq_true_eq] at h
 exact h
theorem most_get {A B : Nat → Iv} {a b C S : Nat → Int} (ok : mostOK A B = true) (hA : ∀ m, InK K80 (A m) (a m)) (hB : ∀ m, InK K80 (B m) (b m)) (cs : ∀ m, m < 7 → C m * C m + S m * S m ≤ 1099528404992 * 1099528404992) :
    Ab (sm (fun m => a m * C m + b m * S m) 7) (most A B * (K80 * 1099528404992)) ∧ (∀ m, m < 7 → Ab (a m * C m + b m * S m) (hyp (mag (A m)) (mag (B m)) * (K80 * 1099528404992))) := by
 unfold mostOK at ok
 rw [List.all_eq_true] at ok
 have one (m : Nat) (hm : m < 7) : Ab (a m * C m + b m * S m) (hyp (mag (A m)) (mag (B m)) * (K80 * 1099528404992)) := by
  have o := hypOK_get (ok m (List.mem_range.2 hm))
  have := wave (C := C m) (S := S m) (K := 1099528404992) (k := K80) (by decide) (mag_k (by decide) (hA m)) (mag_k (by decide) (hB m)) o.1 o.2 (by decide) (cs m hm)
  rw [Int.mul_assoc] at this
  exact this
 refine ⟨?_, one⟩
 have := sm_ab one
 rw [sm_eq (g := fun m => (K80 * 1099528404992) * hyp (mag (A m)) (mag (B m))) (fun k _ => Int.mul_comm _ _), sm_mul, Int.mul_comm] at this
 exact this
theorem sm_first (f : Nat → Int) : ∀ n, sm f (n + 1) = f 0 + sm (fun k => f (k + 1)) n
 | 0 => by show 0 + f 0 = f 0 + 0; omega
 | n + 1 => by
  show sm f (n + 1) + f (n + 1) = f 0 + (sm (fun k => f (k + 1)) n + f (n + 1))
  rw [sm_first f n]; omega
structure Bx (c s q : Int) (g h : Nat → Nat → Int) (C S : Nat → Int) : Type where
 (U V E r d : Int)
 up : Ab (UPx c s q g h C S) (U * (K80 * 1099528404992))
 so : Ab (SOx c s q g h C S) (V * (K80 * 1099528404992))
 ea : Ab (EAx c s q g h C S) (E * (K80 * 1099528404992))
 sq : U * U + V * V + E * E ≤ 9575901417167477692847620096
 rd : r * r + d * d ≤ 1000000
 low : 3100 * 1099511627776 * 1099511627776 * K80 ≤ -(r * UPx c s q g h C S - d * SOx c s q g h C S)
theorem box_at {C S Q : Iv} {c s q r d : Int} {g h : Nat → Nat → Int} {Cm Sm : Nat → Int} (iC : In C c) (iS : In S s) (iQ : In Q q) (hc : Ab c 2199023255552) (hs : Ab s 2199023255552) (q0 : 0 ≤ q) (q1 : q ≤ 1168231104512) (P : Put g h Cm Sm) (ok : boxOK C S Q r d = true) :
    Lies C S Q c s q ∧ Nonempty (Bx c s q g h Cm Sm) := by
 unfold boxOK at ok
 simp only [Bool.and_eq_true, decide_eq_true_eq] at ok
 obtain ⟨⟨⟨⟨⟨⟨⟨o1, o2⟩, o3⟩, o4⟩, o5⟩, o6⟩, o7⟩, o8⟩ := ok
 have L := lies_at iC iS iQ hc hs q0 q1 o1
 refine ⟨L, ⟨⟨_, _, _, r, d, ?_, ?_, ?_, o6, o8, ?_⟩⟩⟩
 ·unfold UPx
  rw [by_order (wU c s q) (fun n m => g (n + 1) m) (fun n m => h (n + 1) m)]
  exact (most_get o2 (uA_in L P.g) (uB_in L P.h) P.c).1
 ·unfold SOx
  rw [by_order (wS c s q) (fun n m => g (n + 1) m) (fun n m => h (n + 1) m)]
  exact (most_get o3 (sA_in L P.g) (sB_in L P.h) P.c).1
 ·unfold EAx
  have e : sm (fun n => sm (fun m => wE c s q n m * (g (n + 1) m * Sm m - h (n + 1) m * Cm m)) 7) 6 = sm (fun n => sm (fun m => wE c s q n m * (g (n + 1) m * Sm m + h (n + 1) m * -Cm m)) 7) 6 := by
   apply sm_eq; intro n _; apply sm_eq; intro m _
   rw [Int.mul_neg, Int.sub_eq_add_neg]
  rw [e, by_order (wE c s q) (fun n m => g (n + 1) m) (fun n m => h (n + 1) m) Sm (fun m => -Cm m)]
  exact (most_get (C := Sm) (S := fun m => -Cm m) o4 (eA_in L P.g) (eB_in L P.h) (fun m hm => by
   have := P.c m hm
   show Sm m * Sm m + -Cm m * -Cm m ≤ _
   rw [Int.neg_mul_neg]; omega)).1
 ·have e : r * UPx c s q g h Cm Sm - d * SOx c s q g h Cm Sm = sm (fun m => (r * sm (fun n => wU c s q n m * g (n + 1) m) 6 - d * sm (fun n => wS c s q n m * g (n + 1) m) 6) * Cm m + (r * sm (fun n => wU c s q n m * h (n + 1) m) 6 - d * sm (fun n => wS c s q n m * h (n + 1) m) 6) * Sm m) 7 := by
   unfold UPx SOx
   rw [by_order (wU c s q) (fun n m => g (n + 1) m) (fun n m => h (n + 1) m), by_order (wS c s q) (fun n m => g (n + 1) m) (fun n m => h (n + 1) m), ← sm_mul, ← sm_mul, Int.sub_eq_add_neg, ← Int.neg_one_mul, ← sm_mul, ← sm_add]
   apply sm_eq
   intro m _
   grind
  have vAi (m : Nat) : InK K80 (vA C S Q r d m) (r * sm (fun n => wU c s q n m * g (n + 1) m) 6 - d * sm (fun n => wS c s q n m * g (n + 1) m) 6) := ((uA_in L P.g m).ims r).sub ((sA_in L P.g m).ims d)
  have vBi (m : Nat) : InK K80 (vB C S Q r d m) (r * sm (fun n => wU c s q n m * h (n + 1) m) 6 - d * sm (fun n => wS c s q n m * h (n + 1) m) 6) := ((uB_in L P.h m).ims r).sub ((sB_in L P.h m).ims d)
  have w := (most_get (C := Cm) (S := Sm) o5 vAi vBi P.c).2
  rw [e, sm_first, P.c0, P.s0, Int.mul_zero, Int.add_zero]
  have rest := sm_ab (f := fun k => (r * sm (fun n => wU c s q n (k + 1) * g (n + 1) (k + 1)) 6 - d * sm (fun n => wS c s q n (k + 1) * g (n + 1) (k + 1)) 6) * Cm (k + 1) + (r * sm (fun n => wU c s q n (k + 1) * h (n + 1) (k + 1)) 6 - d * sm (fun n => wS c s q n (k + 1) * h (n + 1) (k + 1)) 6) * Sm (k + 1)) (n := 6) (fun k hk => w (k + 1) (by omega))
  rw [sm_eq (n := 6) (g := fun m => (K80 * 1099528404992) * hyp (mag (vA C S Q r d (m + 1))) (mag (vB C S Q r d (m + 1)))) (fun k _ => Int.mul_comm _ _), sm_mul] at rest
  have m0 : most (vA C S Q r d) (vB C S Q r d) = hyp (mag (vA C S Q r d 0)) (mag (vB C S Q r d 0)) + sm (fun m => hyp (mag (vA C S Q r d (m + 1))) (mag (vB C S Q r d (m + 1)))) 6 := sm_first _ 6
  have z := (vAi 0).hi
  have r2 := rest.hi
  generalize sm (fun k => (r * sm (fun n => wU c s q n (k + 1) * g (n + 1) (k + 1)) 6 - d * sm (fun n => wS c s q n (k + 1) * g (n + 1) (k + 1)) 6) * Cm (k + 1) + (r * sm (fun n => wU c s q n (k + 1) * h (n + 1) (k + 1)) 6 - d * sm (fun n => wS c s q n (k + 1) * h (n + 1) (k + 1)) 6) * Sm (k + 1)) 6 = R at r2 ⊢
  generalize r * sm (fun n => wU c s q n 0 * g (n + 1) 0) 6 - d * sm (fun n => wS c s q n 0 * g (n + 1) 0) 6 = Z at z ⊢
  rw [m0] at o7
  generalize sm (fun m => hyp (mag (vA C S Q r d (m + 1))) (mag (vB C S Q r d (m + 1)))) 6 = H at r2 o7
  generalize hyp (mag (vA C S Q r d 0)) (mag (vB C S Q r d 0)) = H0 at o7
  generalize (vA C S Q r d 0).2 = v0 at o7 z
  have K : K80 = 1208925819614629174706176 := rfl
  rw [K] at z r2 ⊢
  omega
end Go.Proofs.YtbophanlmkbfeaaGreatDoor
