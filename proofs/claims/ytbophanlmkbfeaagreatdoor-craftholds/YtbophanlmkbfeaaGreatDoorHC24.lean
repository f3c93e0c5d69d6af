/-
A part.
A part.
A part.
A part.
A part.
A part.
-/
import Derived.Test.YtbophanlmkbfeaaGreatDoorHC22
import Derived.Test.YtbophanlmkbfeaaGreatDoorHC23
import Derived.Test.YtbophanlmkbfeaaGreatDoorHC11
import Derived.Test.YtbophanlmkbfeaaGreatDoorHC15
import Derived.Test.YtbophanlmkbfeaaGreatDoorHC02
import Derived.Test.YtbophanlmkbfeaaGreatDoorHC16
namespace Go.Proofs.YtbophanlmkbfeaaGreatDoor
abbrev Strip := Iv × Iv × List (Iv × Iv)
def chain (hi : Int) : Int → List Iv → Bool
 | lo, [] => decide (hi ≤ lo)
 | lo, X :: l => decide (X.1 ≤ lo + 1) && chain hi X.2 l
theorem chain_get {hi x : Int} (hx : x ≤ hi) : ∀ (l : List Iv) (lo : Int), chain hi lo l = true → lo < x → ∃ X, X ∈ l ∧ X.1 ≤ x ∧ x ≤ X.2
 | [], lo, h, k => by
  have := of_decide_eq_true h
  omega
 | X :: l, lo, h, k => by
  unfold chain at h
  simp only [Bool.and_eq_true, decide_eq_true_eq] at h
  by_cases c : x ≤ X.2
  ·exact ⟨X, List.mem_cons_self, by omega, c⟩
  ·obtain ⟨Y, m, a, b⟩ := chain_get hx l X.2 h.2 (by omega)
   exact ⟨Y, List.mem_cons_of_mem _ m, a, b⟩
def sineOK (C S : Iv) : Bool :=
 decide (1208925819614629174706176 + 4398046511104 ≤ S.2 * S.2 + (if C.1 ≤ 0 ∧ 0 ≤ C.2 then 0 else min (C.1 * C.1) (C.2 * C.2))) && decide (0 ≤ S.2) &&
 (decide (S.1 ≤ 0) || decide (S.1 * S.1 + max (C.1 * C.1) (C.2 * C.2) ≤ 1208925819614629174706176 - 4398046511104))
def stripOK (Z : Strip) : Bool := sineOK Z.1 Z.2.1 && chain 1098315776674 836129616317 (Z.2.2.map Prod.fst) && Z.2.2.all fun b => boxOK Z.1 Z.2.1 b.1 b.2.1 b.2.2
theorem sine_get {C S : Iv} {c s : Int} (ok : sineOK C S = true) (ic : In C c) (s0 : 0 ≤ s) (cs : Ab (c * c + s * s - 1208925819614629174706176) 4398046511104) : In S s := by
 unfold sineOK at ok
 simp only [Bool.and_eq_true, Bool.or_eq_true, decide_eq_true_eq] at ok
 obtain ⟨⟨o1, o2⟩, o3⟩ := ok
 have c1 := ic.lo; have c2 := ic.hi
 have k1 := cs.lo; have k2 := cs.hi
 have cc := sq_nonneg c
 refine in_mk ?_ ?_
 ·rcases o3 with h | h
  ·omega
  ·have m : c * c ≤ max (C.1 * C.1) (C.2 * C.2) := by
    have := (box_mul (a := C.1) (b := C.2) (c := C.1) (d := C.2) (x := c) (y := c) (by omega) (by omega) (by omega) (by omega)).2
    unfold max4 at this
    have e := Int.mul_comm C.2 C.1
    have p := lin_le (a := C.1) (b := C.2) (x := C.1) (y := C.2) (by omega) (by omega)
    have : C.1 * C.2 ≤ max (C.1 * C.1) (C.2 * C.2) := by
     have := sq_nonneg (C.1 - C.2)
     have e2 : (C.1 - C.2) * (C.1 - C.2) = C.1 * C.1 + C.2 * C.2 - 2 * (C.1 * C.2) := by grind
     omega
    omega
   apply Classical.byContradiction
   intro g
   have := Int.mul_le_mul (show s + 1 ≤ S.1 by omega) (show s + 1 ≤ S.1 by omega) (by omega) (by omega)
   have e : (s + 1) * (s + 1) = s * s + 2 * s + 1 := by grind
   omega
 ·have m : (if C.1 ≤ 0 ∧ 0 ≤ C.2 then 0 else min (C.1 * C.1) (C.2 * C.2)) ≤ c * c := by
   split
   ·exact cc
   ·rename_i g
    by_cases h : 0 < C.1
    ·have := Int.mul_le_mul (show C.1 ≤ c by omega) (show C.1 ≤ c by omega) (by omega) (by omega)
     omega
    ·have := Int.mul_le_mul (show -C.2 ≤ -c by omega) (show -C.2 ≤ -c by omega) (by omega) (by omega)
     rw [Int.neg_mul_neg, Int.neg_mul_neg] at this
     omega
  apply Classical.byContradiction
  intro g
  have := Int.mul_le_mul (show S.2 + 1 ≤ s by omega) (show S.2 + 1 ≤ s by omega) (by omega) (by omega)
  have e : (S.2 + 1) * (S.2 + 1) = S.2 * S.2 + 2 * S.2 + 1 := by grind
  omega
def strip0 : Strip :=
 ((-1099511627776, -1078384820154), (0, 214504077539), [((836129616317, 967222696495), (-989, 139)), ((967222696495, 1098315776674), (-996, 69))])
def strip1 : Strip :=
 ((-1078384820154, -1052167026225), (214504077516, 319171378015), [((836129616317, 967222696495), (-882, 469)), ((967222696495, 1098315776674), (-847, 529))])
def strip2 : Strip :=
 ((-1052167026225, -1015816288660), (319171378000, 420764883649), [((836129616317, 967222696495), (-765, 642)), ((967222696495, 1032769236584), (-808, 587)), ((1032769236584, 1065542506629), (-808, 587)), ((1065542506629, 1098315776674), (-808, 587))])
def strip3 : Strip :=
 ((-1015816288660, -993946739174), (420764883637, 470101796747), [((836129616317, 967222696495), (-718, 694)), ((967222696495, 1098315776674), (-668, 742))])
def strip4 : Strip :=
 ((-993946739174, -969682684933), (470101796736, 518306193442), [((836129616317, 967222696495), (-615, 787)), ((967222696495, 1098315776674), (-615, 787))])
def strip5 : Strip :=
 ((-969682684933, -943082580171), (518306193432, 565261945117), [((836129616317, 967222696495), (-558, 828)), ((967222696495, 1032769236584), (-668, 742)), ((1032769236584, 1098315776674), (-615, 787))])
def strip6 : Strip :=
 ((-943082580171, -914210506869), (565261945107, 610855931255), [((836129616317, 901676156406), (-718, 694)), ((901676156406, 967222696495), (-668, 742)), ((967222696495, 1032769236584), (-615, 787)), ((1032769236584, 1098315776674), (-558, 828))])
def strip7 : Strip :=
 ((-914210506869, -883136020380), (610855931246, 654978311952), [((836129616317, 901676156406), (-718, 694)), ((901676156406, 967222696495), (-615, 787)), ((967222696495, 1032769236584), (-558, 828)), ((1032769236584, 1098315776674), (-499, 865))])
def strip8 : Strip :=
 ((-883136020380, -849933981864), (654978311943, 697522792525), [((836129616317, 901676156406), (-668, 742)), ((901676156406, 967222696495), (-615, 787)), ((967222696495, 1032769236584), (-499, 865)), ((1032769236584, 1098315776674), (-438, 898))])
def strip9 : Strip :=
 ((-849933981864, -814684377941), (697522792517, 738386879595), [((836129616317, 901676156406), (-615, 787)), ((901676156406, 967222696495), (-558, 828)), ((967222696495, 1032769236584), (-438, 898)), ((1032769236584, 1098315776674), (-438, 898))])
def strip10 : Strip :=
 ((-814684377941, -777472127993), (738386879587, 777472127998), [((836129616317, 901676156406), (-558, 828)), ((901676156406, 967222696495), (-499, 865)), ((967222696495, 1032769236584), (-438, 898)), ((1032769236584, 1065542506629), (-499, 865)), ((1065542506629, 1098315776674), (-438, 898))])
def strip11 : Strip :=
 ((-777472127993, -738386879591), (777472127990, 814684377945), [((836129616317, 901676156406), (-558, 828)), ((901676156406, 967222696495), (-499, 865)), ((967222696495, 1032769236584), (-374, 926)), ((1032769236584, 1065542506629), (-438, 898)), ((1065542506629, 1098315776674), (-438, 898))])
def strip12 : Strip :=
 ((-738386879591, -697522792520), (814684377938, 849933981869), [((836129616317, 901676156406), (-499, 865)), ((901676156406, 967222696495), (-438, 898)), ((967222696495, 1032769236584), (-374, 926)), ((1032769236584, 1065542506629), (-438, 898)), ((1065542506629, 1098315776674), (-374, 926))])
def strip13 : Strip :=
 ((-697522792520, -654978311947), (849933981861, 883136020384), [((836129616317, 901676156406), (-438, 898)), ((901676156406, 967222696495), (-438, 898)), ((967222696495, 999995966539), (-499, 865)), ((999995966539, 1032769236584), (-438, 898)), ((1032769236584, 1065542506629), (-438, 898)), ((1065542506629, 1098315776674), (-374, 926))])
def strip14 : Strip :=
 ((-654978311947, -610855931251), (883136020377, 914210506872), [((836129616317, 901676156406), (-438, 898)), ((901676156406, 967222696495), (-374, 926)), ((967222696495, 999995966539), (-499, 865)), ((999995966539, 1032769236584), (-438, 898)), ((1032769236584, 1065542506629), (-438, 898)), ((1065542506629, 1098315776674), (-374, 926))])
def strip15 : Strip :=
 ((-610855931251, -565261945111), (914210506865, 943082580175), [((836129616317, 901676156406), (-374, 926)), ((901676156406, 967222696495), (-374, 926)), ((967222696495, 999995966539), (-438, 898)), ((999995966539, 1032769236584), (-438, 898)), ((1032769236584, 1065542506629), (-374, 926)), ((1065542506629, 1098315776674), (-374, 926))])
def strip16 : Strip :=
 ((-565261945111, -518306193435), (943082580168, 969682684937), [((836129616317, 901676156406), (-374, 926)), ((901676156406, 967222696495), (-308, 950)), ((967222696495, 1032769236584), (-308, 950)), ((1032769236584, 1065542506629), (-374, 926)), ((1065542506629, 1098315776674), (-374, 926))])
def strip17 : Strip :=
 ((-518306193435, -470101796741), (969682684931, 993946739177), [((836129616317, 901676156406), (-308, 950)), ((901676156406, 967222696495), (-308, 950)), ((967222696495, 1032769236584), (-241, 969)), ((1032769236584, 1065542506629), (-374, 926)), ((1065542506629, 1098315776674), (-374, 926))])
def strip18 : Strip :=
 ((-470101796741, -420764883642), (993946739171, 1015816288663), [((836129616317, 901676156406), (-241, 969)), ((901676156406, 967222696495), (-241, 969)), ((967222696495, 1032769236584), (-241, 969)), ((1032769236584, 1065542506629), (-374, 926)), ((1065542506629, 1098315776674), (-374, 926))])
def strip19 : Strip :=
 ((-420764883642, -319171378006), (1015816288657, 1052167026228), [((836129616317, 901676156406), (-104, 993)), ((901676156406, 967222696495), (-104, 993)), ((967222696495, 999995966539), (-173, 984)), ((999995966539, 1032769236584), (-173, 984)), ((1032769236584, 1065542506629), (-173, 984)), ((1065542506629, 1098315776674), (-173, 984))])
def strip20 : Strip :=
 ((-319171378006, -214504077523), (1052167026222, 1078384820157), [((836129616317, 901676156406), (-34, 998)), ((901676156406, 967222696495), (-34, 998)), ((967222696495, 1032769236584), (-34, 998)), ((1032769236584, 1098315776674), (-34, 998))])
def strip21 : Strip :=
 ((-214504077523, 0), (1078384820151, 1099511627778), [((836129616317, 901676156406), (-34, 998)), ((901676156406, 967222696495), (-34, 998)), ((967222696495, 1032769236584), (-34, 998)), ((1032769236584, 1098315776674), (-34, 998))])
def strip22 : Strip :=
 ((0, 420764883642), (1015816288657, 1099511627778), [((836129616317, 901676156406), (34, 998)), ((901676156406, 967222696495), (34, 998)), ((967222696495, 1032769236584), (34, 998)), ((1032769236584, 1098315776674), (34, 998))])
def strip23 : Strip :=
 ((420764883642, 610855931251), (914210506865, 1015816288663), [((836129616317, 901676156406), (374, 926)), ((901676156406, 967222696495), (241, 969)), ((967222696495, 1032769236584), (104, 993)), ((1032769236584, 1098315776674), (34, 998))])
def strip24 : Strip :=
 ((610855931251, 697522792520), (849933981861, 914210506872), [((836129616317, 967222696495), (615, 787)), ((967222696495, 1098315776674), (374, 926))])
def strip25 : Strip :=
 ((697522792520, 777472127993), (777472127990, 849933981869), [((836129616317, 967222696495), (808, 587)), ((967222696495, 1098315776674), (615, 787))])
def strip26 : Strip :=
 ((777472127993, 849933981864), (697522792517, 777472127998), [((836129616317, 967222696495), (939, 341)), ((967222696495, 1098315776674), (960, 275))])
def strip27 : Strip :=
 ((849933981864, 914210506869), (610855931246, 697522792525), [((836129616317, 967222696495), (977, 207)), ((967222696495, 1098315776674), (999, 0))])
def strip28 : Strip :=
 ((914210506869, 969682684933), (518306193432, 610855931255), [((836129616317, 967222696495), (996, 69)), ((967222696495, 1098315776674), (999, 0))])
def strip29 : Strip :=
 ((969682684933, 1015816288660), (420764883637, 518306193442), [((836129616317, 967222696495), (999, 0)), ((967222696495, 1098315776674), (999, 0))])
def strip30 : Strip :=
 ((1015816288660, 1052167026225), (319171378000, 420764883649), [((836129616317, 967222696495), (999, 0)), ((967222696495, 1098315776674), (999, 0))])
def strip31 : Strip :=
 ((1052167026225, 1078384820154), (214504077516, 319171378015), [((836129616317, 967222696495), (999, 0)), ((967222696495, 1098315776674), (999, 0))])
def strip32 : Strip :=
 ((1078384820154, 1099511627776), (0, 214504077539), [((836129616317, 967222696495), (999, 0)), ((967222696495, 1098315776674), (999, 0))])
def strips : List Strip := [strip0, strip1, strip2, strip3, strip4, strip5, strip6, strip7, strip8, strip9, strip10, strip11, strip12, strip13, strip14, strip15, strip16, strip17, strip18, strip19, strip20, strip21, strip22, strip23, strip24, strip25, strip26, strip27, strip28, strip29, strip30, strip31, strip32]
theorem strip0_ok : stripOK strip0 = true := by decide +kernel
theorem strip1_ok : stripOK strip1 = true := by decide +kernel
theorem strip2_ok : stripOK strip2 = true := by decide +kernel
theorem strip3_ok : stripOK strip3 = true := by decide +kernel
theorem strip4_ok : stripOK strip4 = true := by decide +kernel
theorem strip5_ok : stripOK strip5 = true := by decide +kernel
theorem strip6_ok : stripOK strip6 = true := by decide +kernel
theorem strip7_ok : stripOK strip7 = true := by decide +kernel
theorem strip8_ok : stripOK strip8 = true := by decide +kernel
theorem strip9_ok : stripOK strip9 = true := by decide +kernel
theorem strip10_ok : stripOK strip10 = true := by decide +kernel
theorem strip11_ok : stripOK strip11 = true := by decide +kernel
theorem strip12_ok : stripOK strip12 = true := by decide +kernel
theorem strip13_ok : stripOK strip13 = true := by decide +kernel
theorem strip14_ok : stripOK strip14 = true := by decide +kernel
theorem strip15_ok : stripOK strip15 = true := by decide +kernel
theorem strip16_ok : stripOK strip16 = true := by decide +kernel
theorem strip17_ok : stripOK strip17 = true := by decide +kernel
theorem strip18_ok : stripOK strip18 = true := by decide +kernel
theorem strip19_ok : stripOK strip19 = true := by decide +kernel
theorem strip20_ok : stripOK strip20 = true := by decide +kernel
theorem strip21_ok : stripOK strip21 = true := by decide +kernel
theorem strip22_ok : stripOK strip22 = true := by decide +kernel
theorem strip23_ok : stripOK strip23 = true := by decide +kernel
theorem strip24_ok : stripOK strip24 = true := by decide +kernel
theorem strip25_ok : stripOK strip25 = true := by decide +kernel
theorem strip26_ok : stripOK strip26 = true := by decide +kernel
theorem strip27_ok : stripOK strip27 = true := by decide +kernel
theorem strip28_ok : stripOK strip28 = true := by decide +kernel
theorem strip29_ok : stripOK strip29 = true := by decide +kernel
theorem strip30_ok : stripOK strip30 = true := by decide +kernel
theorem strip31_ok : stripOK strip31 = true := by decide +kernel
theorem strip32_ok : stripOK strip32 = true := by decide +kernel
theorem strips_ok : ∀ Z ∈ strips, stripOK Z = true := by
 intro Z h
 simp only [strips, List.mem_cons, List.not_mem_nil, or_false] at h
 rcases h with rfl | rfl | rfl | rfl | rfl | rfl | rfl | rfl | rfl | rfl | rfl | rfl | rfl | rfl | rfl | rfl | rfl | rfl | rfl | rfl | rfl | rfl | rfl | rfl | rfl | rfl | rfl | rfl | rfl | rfl | rfl | rfl | rfl
 ·exact strip0_ok
 ·exact strip1_ok
 ·exact strip2_ok
 ·exact strip3_ok
 ·exact strip4_ok
 ·exact strip5_ok
 ·exact strip6_ok
 ·exact strip7_ok
 ·exact strip8_ok
 ·exact strip9_ok
 ·exact strip10_ok
 ·exact strip11_ok
 ·exact strip12_ok
 ·exact strip13_ok
 ·exact strip14_ok
 ·exact strip15_ok
 ·exact strip16_ok
 ·exact strip17_ok
 ·exact strip18_ok
 ·exact strip19_ok
 ·exact strip20_ok
 ·exact strip21_ok
 ·exact strip22_ok
 ·exact strip23_ok
 ·exact strip24_ok
 ·exact strip25_ok
 ·exact strip26_ok
 ·exact strip27_ok
 ·exact strip28_ok
 ·exact strip29_ok
 ·exact strip30_ok
 ·exact strip31_ok
 ·exact strip32_ok
theorem strips_chain : chain 1099511627776 (-1099511627777) (strips.map Prod.fst) = true := by decide +kernel
theorem found {c s q : Int} (cb : Ab c 1099511627776) (s0 : 0 ≤ s) (cs : Ab (c * c + s * s - 1208925819614629174706176) 4398046511104) (q0 : 836129616317 < q) (q1 : q ≤ 1098315776674) :
    ∃ (C S Q : Iv) (r d : Int), In C c ∧ In S s ∧ In Q q ∧ boxOK C S Q r d = true := by
 obtain ⟨X, hX, x1, x2⟩ := chain_get cb.hi _ _ strips_chain (by have := cb.lo; omega)
 obtain ⟨Z, hZ, rfl⟩ := List.mem_map.1 hX
 have ok := strips_ok Z hZ
 unfold stripOK at ok
 simp only [Bool.and_eq_true] at ok
 obtain ⟨⟨o1, o2⟩, o3⟩ := ok
 have ic : In Z.1 c := in_mk x1 x2
 obtain ⟨Y, hY, y1, y2⟩ := chain_get q1 _ _ o2 q0
 obtain ⟨b, hb, rfl⟩ := List.mem_map.1 hY
 rw [List.all_eq_true] at o3
 exact ⟨Z.1, Z.2.1, b.1, b.2.1, b.2.2, ic, sine_get o1 ic s0 cs, in_mk y1 y2, o3 b hb⟩
end Go.Proofs.YtbophanlmkbfeaaGreatDoor
namespace Go.Proofs.YtbophanlmkbfeaaGreatDoor
theorem vec_good {w : V3} {c s u v : Int} (B : St3 w 756940800000023520) (cb : Ab c 1099511627776) (sb : Ab s 1099511627776) (ub : Ab u 1099511627776) (vb : Ab v 1099511627776) : ∃ x, vecS false w c s u v = (x, false) := by
 obtain ⟨v1, h1, _, b1⟩ := mul_x (B := 756940800000023521) B.a sb (by decide) (by decide) (by decide) (by decide)
 obtain ⟨v2, h2, _, b2⟩ := mul_x (B := 756940800000023521) B.b cb (by decide) (by decide) (by decide) (by decide)
 have h3 := add_near b1 b2 (by decide) (by decide) (by decide)
 have b3 := b1.add b2
 obtain ⟨v4, h4, _, b4⟩ := mul_x (B := 1513881600000047043) b3 ub (by decide) (by decide) (by decide) (by decide)
 obtain ⟨v5, h5, _, b5⟩ := mul_x (B := 756940800000023521) B.c vb (by decide) (by decide) (by decide) (by decide)
 have h6 := sub_near b4 b5 (by decide) (by decide) (by decide)
 obtain ⟨v7, h7, _, b7⟩ := mul_x (B := 1513881600000047043) b3 vb (by decide) (by decide) (by decide) (by decide)
 obtain ⟨v8, h8, _, b8⟩ := mul_x (B := 756940800000023521) B.c ub (by decide) (by decide) (by decide) (by decide)
 have h9 := add_near b7 b8 (by decide) (by decide) (by decide)
 obtain ⟨v10, h10, _, b10⟩ := mul_x (B := 756940800000023521) B.a cb (by decide) (by decide) (by decide) (by decide)
 obtain ⟨v11, h11, _, b11⟩ := mul_x (B := 756940800000023521) B.b sb (by decide) (by decide) (by decide) (by decide)
 have h12 := sub_near b10 b11 (by decide) (by decide) (by decide)
 exact ⟨(v4 - v5, v7 + v8, v10 - v11), by unfold vecS; simp only [h1, h2, h3, h4, h5, h6, h7, h8, h9, h10, h11, h12]⟩
abbrev LonAt (x y w u v : Int) : Prop := (w < 1048576 ∧ u = 1099511627776 ∧ v = 0) ∨ (1048576 ≤ w ∧ divS false x w = (u, false) ∧ divS false y w = (v, false) ∧ Ab (2 * (u * w - x * 1099511627776)) w ∧ Ab (2 * (v * w - y * 1099511627776)) w)
structure Earth (p : V3) (y r : Int) : Type where
 (w c s u v q : Int)
 (C S : Iv)
 (b : V3)
 W : Rt w (p.1 * p.1 + p.2.1 * p.2.1)
 hw : normS false p.1 p.2.1 0 = (w, false)
 hc : divS false p.2.2 r = (c, false)
 pc : Ab (2 * (c * r - p.2.2 * 1099511627776)) r
 hs : divS false w r = (s, false)
 ps : Ab (2 * (s * r - w * 1099511627776)) r
 lon : LonAt p.1 p.2.1 w u v
 hq : divS false 7005208482886 r = (q, false)
 pq : Ab (2 * (q * r - 7005208482886 * 1099511627776)) r
 cb : Ab c 1099511627776
 sb : Ab s 1099511627776
 s0 : 0 ≤ s
 cs : Ab (c * c + s * s - 1208925819614629174706176) 4398046511104
 Z : Sums C S (pt q) c s q y u v
 uv : 1208925819614629174706176 - 4398046511104 ≤ u * u + v * v
 hb : vecS false (outS c s q y u v 6) c s u v = (b, false)
theorem earth_at {p : V3} {y r : Int} (hr : normS false p.1 p.2.1 p.2.2 = (r, false)) (r0 : 6597069766656 ≤ r) (r1 : r ≤ 10995116277760) (y0 : 0 ≤ y) (y1 : y ≤ 5497558138880) : Nonempty (Earth p y r) := by
 obtain ⟨_, nx, ny, nz, _, _, R1, R2⟩ := normS_good hr
 have R : Rt r (p.1 * p.1 + p.2.1 * p.2.1 + p.2.2 * p.2.2) := ⟨by omega, R1, R2⟩
 have x0 := sq_nonneg p.1; have y0' := sq_nonneg p.2.1; have z0 := sq_nonneg p.2.2
 have rr := Int.mul_le_mul (show r + 1 ≤ 10995116277761 by omega) (show r + 1 ≤ 10995116277761 by omega) (by omega) (by decide)
 have hq2 := isq_spec (p.1 * p.1 + p.2.1 * p.2.1) (by omega) (by omega)
 have W : Rt (isq (p.1 * p.1 + p.2.1 * p.2.1)) (p.1 * p.1 + p.2.1 * p.2.1) := ⟨hq2.1, hq2.2.1, hq2.2.2⟩
 have wr : Ab (isq (p.1 * p.1 + p.2.1 * p.2.1)) r := sq_lt R.n0 (by have := R.hi; have := W.lo; omega)
 have hw : normS false p.1 p.2.1 0 = (isq (p.1 * p.1 + p.2.1 * p.2.1), false) := normS_make nx ny (by rfl) W.n0 (by have := wr.hi; omega) (by have := W.lo; omega) (by have := W.hi; omega)
 generalize isq (p.1 * p.1 + p.2.1 * p.2.1) = w at *
 have zr : Ab p.2.2 r := sq_lt R.n0 (by have := R.hi; omega)
 obtain ⟨c, hc, pc, _⟩ := div_x (K := 10995116277760) (B := 2199023255552) (zr.le r1) r0 r1 (by decide) (by decide) (by decide) (by decide) (by decide) (by decide)
 obtain ⟨s, hs, ps, _⟩ := div_x (K := 10995116277760) (B := 2199023255552) (wr.le r1) r0 r1 (by decide) (by decide) (by decide) (by decide) (by decide) (by decide)
 obtain ⟨q, hq, pq, _⟩ := div_x (a := 7005208482886) (K := 7005208482886) (B := 1168231104512) ⟨by decide, by decide⟩ r0 r1 (by decide) (by decide) (by decide) (by decide) (by decide) (by decide)
 obtain ⟨cb, sb, s0, cs, _, _⟩ := lat_one R W r0 pc ps
 have q0 : 0 ≤ q := by
  apply Classical.byContradiction
  intro g
  have := Int.mul_le_mul_of_nonneg_right (show 1 ≤ -q by omega) (show 0 ≤ r by omega)
  rw [Int.neg_mul] at this
  have := pq.lo
  omega
 have q1 : q ≤ 1168231104512 := by
  apply Classical.byContradiction
  intro g
  have := Int.mul_le_mul (show 1168231104513 ≤ q by omega) r0 (by decide) (by omega)
  have := pq.hi
  omega
 have L : ∃ u v, LonAt p.1 p.2.1 w u v ∧ Lon u v ∧ 1208925819614629174706176 - 4398046511104 ≤ u * u + v * v := by
  by_cases h : w < 1048576
  ·exact ⟨1099511627776, 0, Or.inl ⟨h, rfl, rfl⟩, ⟨⟨by decide, by decide⟩, ⟨by decide, by decide⟩, by decide⟩, by decide⟩
  ·have xw : Ab p.1 w := sq_lt W.n0 (by have := W.hi; omega)
   have yw : Ab p.2.1 w := sq_lt W.n0 (by have := W.hi; omega)
   have w1 : w ≤ 10995116277760 := by have := wr.hi; omega
   have w0 : 1048576 ≤ w := by omega
   have go (a : Int) (ha : Ab a w) (na : numB a = true) : ∃ m, divS false a w = (m, false) ∧ Ab (2 * (m * w - a * 1099511627776)) w := by
    obtain ⟨m, e, d1, d2, _⟩ := partS_near a 1099511627776 w na (by rfl) (numB_of ⟨by omega, by omega⟩) (by omega) (by
     rw [show sz 1099511627776 = 1099511627776 by rfl]
     have := sz_le ⟨ha.lo, ha.hi⟩
     omega)
    exact ⟨m, e, ⟨by omega, by omega⟩⟩
   obtain ⟨u, hu, pu⟩ := go p.1 xw nx
   obtain ⟨v, hv, pv⟩ := go p.2.1 yw ny
   obtain ⟨ub, vb, hi, lo, _, _⟩ := lon_one W w0 pu pv
   exact ⟨u, v, Or.inr ⟨w0, hu, hv, pu, pv⟩, ⟨ub, vb, hi⟩, lo⟩
 obtain ⟨u, v, la, ln, uv⟩ := L
 obtain ⟨C, S, _, _, _, iC, iS, _, ok⟩ := found (q := 1000000000000) cb s0 cs (by decide) (by decide)
 have rows : rowsOK C S = true := by
  unfold boxOK at ok
  simp only [Bool.and_eq_true] at ok
  exact ok.1.1.1.1.1.1.1
 have Z : Sums C S (pt q) c s q y u v := ⟨lies_at iC iS (pt_in q) (cb.le (by decide)) (sb.le (by decide)) q0 q1 rows, y0, y1, ln⟩
 obtain ⟨st, _, _, _⟩ := out_at Z 6 (by decide)
 obtain ⟨b, hb⟩ := vec_good (w := outS c s q y u v 6) ⟨st.a.le (by decide), st.b.le (by decide), st.c.le (by decide)⟩ cb sb ln.ub ln.vb
 exact ⟨⟨w, c, s, u, v, q, C, S, b, W, hw, hc, pc, hs, ps, la, hq, pq, cb, sb, s0, cs, Z, uv, hb⟩⟩
end Go.Proofs.YtbophanlmkbfeaaGreatDoor
namespace Go.Proofs.YtbophanlmkbfeaaGreatDoor
def rootS (bad : Bool) (n m : Int) : Int × Bool := sqrtS bad ((n * n - m * m) * 1099511627776)
structure RootT (n m a b : Int) : Type where
 (k1 k2 p : Int)
 h1 : rootS false n m = (k1, false)
 h2 : rootS false (n - 1) m = (k2, false)
 h3 : divS false k2 k1 = (a, false)
 h4 : partS false 1099511627776 (2 * n - 1) 1 = (p, false)
 h5 : divS false p k1 = (b, false)
structure EntT (c s b a x1 x2 y1 y2 z1 z2 : Int) : Type where
 (v1 v2 v3 v5 v6 v7 v8 v9 : Int)
 h1 : mulS false c x1 = (v1, false)
 h2 : mulS false b v1 = (v2, false)
 h3 : mulS false a y1 = (v3, false)
 h4 : subS false v2 v3 = (z1, false)
 h5 : mulS false c x2 = (v5, false)
 h6 : mulS false s x1 = (v6, false)
 h7 : subS false v5 v6 = (v7, false)
 h8 : mulS false b v7 = (v8, false)
 h9 : mulS false a y2 = (v9, false)
 h10 : subS false v8 v9 = (z2, false)
structure EntQ (c b a x3 y3 z3 : Int) : Type where
 (v1 v2 v3 : Int)
 h1 : mulS false c x3 = (v1, false)
 h2 : mulS false b v1 = (v2, false)
 h3 : mulS false a y3 = (v3, false)
 h4 : subS false v2 v3 = (z3, false)
structure DiaT (n c s x1 x2 x3 z1 z2 z3 : Int) : Type where
 (p j v1 v3 v4 v5 v7 : Int)
 hp : partS false 1099511627776 (2 * n - 1) (2 * n) = (p, false)
 hj : sqrtS false p = (j, false)
 h1 : mulS false s x1 = (v1, false)
 h2 : mulS false j v1 = (z1, false)
 h3 : mulS false s x2 = (v3, false)
 h4 : mulS false c x1 = (v4, false)
 h5 : addS false v3 v4 = (v5, false)
 h6 : mulS false j v5 = (z2, false)
 h7 : mulS false s x3 = (v7, false)
 h8 : mulS false j v7 = (z3, false)
structure WaveT (C S u v C' S' : Int) : Type where
 (v1 v2 v4 v5 : Int)
 h1 : mulS false C u = (v1, false)
 h2 : mulS false S v = (v2, false)
 h3 : subS false v1 v2 = (C', false)
 h4 : mulS false S u = (v4, false)
 h5 : mulS false C v = (v5, false)
 h6 : addS false v4 v5 = (S', false)
structure TermT (n m t C S g h P D Q up so ea up' so' ea' : Int) : Type where
 (v1 v2 e v4 v5 o y1 z1 p1 y2 z2 y3 z3 p3 : Int)
 h1 : mulS false g C = (v1, false)
 h2 : mulS false h S = (v2, false)
 h3 : addS false v1 v2 = (e, false)
 h4 : mulS false g S = (v4, false)
 h5 : mulS false h C = (v5, false)
 h6 : subS false v4 v5 = (o, false)
 i1 : mulS false e P = (y1, false)
 j1 : mulS false t y1 = (z1, false)
 q1 : partS false z1 (n + 1) 1 = (p1, false)
 a1 : addS false up p1 = (up', false)
 i2 : mulS false e D = (y2, false)
 j2 : mulS false t y2 = (z2, false)
 a2 : subS false so z2 = (so', false)
 i3 : mulS false o Q = (y3, false)
 j3 : mulS false t y3 = (z3, false)
 q3 : partS false z3 m 1 = (p3, false)
 a3 : addS false ea p3 = (ea', false)
 a0 : m = 0 → ea' = ea
structure VecT (c s u v up so ea x y z : Int) : Type where
 (v1 v2 a v4 v5 v7 v8 v10 v11 : Int)
 h1 : mulS false up s = (v1, false)
 h2 : mulS false so c = (v2, false)
 h3 : addS false v1 v2 = (a, false)
 h4 : mulS false a u = (v4, false)
 h5 : mulS false ea v = (v5, false)
 h6 : subS false v4 v5 = (x, false)
 h7 : mulS false a v = (v7, false)
 h8 : mulS false ea u = (v8, false)
 h9 : addS false v7 v8 = (y, false)
 h10 : mulS false up c = (v10, false)
 h11 : mulS false so s = (v11, false)
 h12 : subS false v10 v11 = (z, false)
end Go.Proofs.YtbophanlmkbfeaaGreatDoor
namespace Go.Proofs.YtbophanlmkbfeaaGreatDoor
def triM (F : Nat → Nat → Int) (k m : Nat) : Int → Int → Int := fun a b => if 0 ≤ a ∧ 0 ≤ b ∧ b ≤ a ∧ (a < (k : Int) + 1 ∨ (a = (k : Int) + 1 ∧ b < (m : Int)) ∨ (a = 1 ∧ b = 1)) then F a.toNat b.toNat else 0
def low (F : Nat → Nat → Int) (k m : Nat) : Int := if 1 ≤ k ∧ m + 1 ≤ k then F (k - 1) m else 0
theorem triM_last (F : Nat → Nat → Int) {k m : Nat} (h : m < k + 1) : triM F k m ((k : Int) + 1 - 1) (m : Int) = F k m := by
 unfold triM
 rw [if_pos ⟨by omega, by omega, by omega, by omega⟩, show ((k : Int) + 1 - 1).toNat = k by omega, Int.toNat_natCast]
theorem triM_other (F : Nat → Nat → Int) (k m : Nat) : triM F k m ((k : Int) + 1 - 2) (m : Int) = low F k m := by
 unfold triM low
 by_cases h : 1 ≤ k ∧ m + 1 ≤ k
 ·rw [if_pos h, if_pos ⟨by omega, by omega, by omega, by omega⟩, show ((k : Int) + 1 - 2).toNat = k - 1 by omega, Int.toNat_natCast]
 ·rw [if_neg h, if_neg (by omega)]
theorem triM_even (F : Nat → Nat → Int) (k : Nat) : triM F k (k + 1) ((k : Int) + 1 - 1) ((k : Int) + 1 - 1) = F k k := by
 unfold triM
 rw [if_pos ⟨by omega, by omega, by omega, by omega⟩, show ((k : Int) + 1 - 1).toNat = k by omega]
theorem triM_put (F : Nat → Nat → Int) {k m : Nat} (h : m < k + 1) (a b : Int) : putM (triM F k m) ((k : Int) + 1) (m : Int) (F (k + 1) m) a b = triM F k (m + 1) a b := by
 unfold putM triM
 by_cases e : a = (k : Int) + 1 ∧ b = (m : Int)
 ·obtain ⟨rfl, rfl⟩ := e
  rw [if_pos ⟨rfl, rfl⟩, if_pos ⟨by omega, by omega, by omega, by omega⟩, show ((k : Int) + 1).toNat = k + 1 by omega, Int.toNat_natCast]
 ·rw [if_neg e]
  by_cases q : 0 ≤ a ∧ 0 ≤ b ∧ b ≤ a ∧ (a < (k : Int) + 1 ∨ (a = (k : Int) + 1 ∧ b < (m : Int)) ∨ (a = 1 ∧ b = 1))
  ·rw [if_pos q, if_pos (by omega)]
  ·rw [if_neg q, if_neg (by omega)]
theorem triM_same (F : Nat → Nat → Int) (k : Nat) (z : F (k + 1) 0 = 0) (a b : Int) : triM F k 0 a b = triM F k 1 a b := by
 unfold triM
 by_cases e : a = (k : Int) + 1 ∧ b = 0
 ·obtain ⟨rfl, rfl⟩ := e
  rw [if_neg (by omega), if_pos (by omega), show ((k : Int) + 1).toNat = k + 1 by omega]
  exact z.symm
 ·by_cases q : 0 ≤ a ∧ 0 ≤ b ∧ b ≤ a ∧ (a < (k : Int) + 1 ∨ (a = (k : Int) + 1 ∧ b < ((0 : Nat) : Int)) ∨ (a = 1 ∧ b = 1))
  ·rw [if_pos q, if_pos (by omega)]
  ·rw [if_neg q, if_neg (by omega)]
theorem triM_diag (F : Nat → Nat → Int) (k : Nat) (a b : Int) : putM (triM F k (k + 1)) ((k : Int) + 1) ((k : Int) + 1) (F (k + 1) (k + 1)) a b = triM F (k + 1) 0 a b := by
 unfold putM triM
 by_cases e : a = (k : Int) + 1 ∧ b = (k : Int) + 1
 ·obtain ⟨rfl, rfl⟩ := e
  rw [if_pos ⟨rfl, rfl⟩, if_pos (by omega), show ((k : Int) + 1).toNat = k + 1 by omega]
 ·rw [if_neg e]
  by_cases q : 0 ≤ a ∧ 0 ≤ b ∧ b ≤ a ∧ (a < (k : Int) + 1 ∨ (a = (k : Int) + 1 ∧ b < ((k + 1 : Nat) : Int)) ∨ (a = 1 ∧ b = 1))
  ·rw [if_pos q, if_pos (by omega)]
  ·rw [if_neg q, if_neg (by omega)]
theorem triM_one (F : Nat → Nat → Int) {k : Nat} (h : ¬ ((k : Int) + 1 > 1)) (a b : Int) : triM F k (k + 1) a b = triM F (k + 1) 0 a b := by
 obtain rfl : k = 0 := by omega
 unfold triM
 by_cases q : 0 ≤ a ∧ 0 ≤ b ∧ b ≤ a ∧ (a < ((0 : Nat) : Int) + 1 ∨ (a = ((0 : Nat) : Int) + 1 ∧ b < ((0 + 1 : Nat) : Int)) ∨ (a = 1 ∧ b = 1))
 ·rw [if_pos q, if_pos (by omega)]
 ·rw [if_neg q, if_neg (by omega)]
theorem triM_all (F : Nat → Nat → Int) {n m : Nat} (h : m ≤ n) (h6 : n ≤ 6) : triM F 6 0 (n : Int) (m : Int) = F n m := by
 unfold triM
 rw [if_pos (by omega), Int.toNat_natCast, Int.toNat_natCast]
theorem triM_none (F : Nat → Nat → Int) {x y : Int} (h0 : F 0 0 = x) (h1 : F 1 1 = y) (a b : Int) : mf2 true x true y a b = triM F 0 0 a b := by
 unfold mf2 triM
 by_cases e : a = 1 ∧ b = 1
 ·obtain ⟨rfl, rfl⟩ := e
  rw [if_pos ⟨rfl, rfl, rfl⟩, if_pos (by omega)]
  exact h1.symm
 ·rw [if_neg (fun h => e h.2)]
  by_cases g : a = 0 ∧ b = 0
  ·obtain ⟨rfl, rfl⟩ := g
   rw [if_pos ⟨rfl, rfl, rfl⟩, if_pos (by omega)]
   exact h0.symm
  ·rw [if_neg (fun h => g h.2), if_neg (by omega)]
theorem mf2_none (x y : Int) (a b : Int) : mf2 false x true y a b = mf2 true 0 true y a b := by
 unfold mf2
 simp
structure Tri (c s : Int) (P D Q : Nat → Nat → Int) : Type where
 p0 : P 0 0 = 1099511627776
 d0 : D 0 0 = 0
 q0 : Q 0 0 = 0
 p1 : P 1 1 = s
 d1 : D 1 1 = c
 q1 : Q 1 1 = 1099511627776
 qz : ∀ n, n ≤ 6 → Q n 0 = 0
 (ga gb : Nat → Nat → Int)
 R : ∀ k m : Nat, k < 6 → m < k + 1 → RootT ((k : Int) + 1) (m : Int) (ga k m) (gb k m)
 T : ∀ k m : Nat, k < 6 → m < k + 1 → EntT c s (gb k m) (ga k m) (P k m) (D k m) (low P k m) (low D k m) (P (k + 1) m) (D (k + 1) m)
 U : ∀ k m : Nat, k < 6 → m < k + 1 → EntQ c (gb k m) (ga k m) (Q k m) (low Q k m) (Q (k + 1) m)
 J : ∀ k : Nat, 1 ≤ k → k < 6 → DiaT ((k : Int) + 1) c s (P k k) (D k k) (Q k k) (P (k + 1) (k + 1)) (D (k + 1) (k + 1)) (Q (k + 1) (k + 1))
 ip : ∀ n m : Nat, n ≤ 6 → I64 (P n m)
 id : ∀ n m : Nat, n ≤ 6 → I64 (D n m)
 iq : ∀ n m : Nat, n ≤ 6 → I64 (Q n m)
end Go.Proofs.YtbophanlmkbfeaaGreatDoor
namespace Go.Proofs.YtbophanlmkbfeaaGreatDoor
def numOK (n m : Nat) : Bool := decide (nIdx n m < 27) && decide (partS false 1099511627776 (at0 (nIdx n m * 2)) 10000 = (fG n m, false)) && decide (partS false 1099511627776 (at0 (nIdx n m * 2 + 1)) 10000 = (fH n m, false)) &&
 (if n ≤ 2 then decide (nIdx n m < 5) && decide (partS false 1099511627776 (yr0 (nIdx n m * 2)) 10000 = (fGy n m, false)) && decide (partS false 1099511627776 (yr0 (nIdx n m * 2 + 1)) 10000 = (fHy n m, false)) else decide (5 ≤ nIdx n m))
theorem numOK_all : ((List.range 7).all fun n => (List.range (n + 1)).all fun m => n == 0 || numOK n m) = true := by decide +kernel
theorem numOK_at {n m : Nat} (h1 : 1 ≤ n) (h6 : n ≤ 6) (hm : m ≤ n) : numOK n m = true := by
 have h := List.all_eq_true.1 (List.all_eq_true.1 numOK_all n (List.mem_range.2 (by omega))) m (List.mem_range.2 (by omega))
 have z : (n == 0) = false := by simp; omega
 rw [z, Bool.false_or] at h
 exact h
theorem num_parts {n m : Nat} (h1 : 1 ≤ n) (h6 : n ≤ 6) (hm : m ≤ n) : nIdx n m < 27 ∧ partS false 1099511627776 (at0 (nIdx n m * 2)) 10000 = (fG n m, false) ∧ partS false 1099511627776 (at0 (nIdx n m * 2 + 1)) 10000 = (fH n m, false) := by
 have h := numOK_at h1 h6 hm
 unfold numOK at h
 simp only [Bool.and_eq_true, decide_eq_true_eq] at h
 exact ⟨h.1.1.1, h.1.1.2, h.1.2⟩
theorem num_low {n m : Nat} (h1 : 1 ≤ n) (h2 : n ≤ 2) (hm : m ≤ n) : nIdx n m < 5 ∧ partS false 1099511627776 (yr0 (nIdx n m * 2)) 10000 = (fGy n m, false) ∧ partS false 1099511627776 (yr0 (nIdx n m * 2 + 1)) 10000 = (fHy n m, false) := by
 have h := numOK_at h1 (by omega) hm
 unfold numOK at h
 rw [if_pos h2] at h
 simp only [Bool.and_eq_true, decide_eq_true_eq] at h
 exact ⟨h.2.1.1, h.2.1.2, h.2.2⟩
theorem num_high {n m : Nat} (h2 : ¬ n ≤ 2) (h6 : n ≤ 6) (hm : m ≤ n) : 5 ≤ nIdx n m := by
 have h := numOK_at (by omega) h6 hm
 unfold numOK at h
 rw [if_neg h2] at h
 simp only [Bool.and_eq_true, decide_eq_true_eq] at h
 exact h.2
def yearS (t : Int) : Int := (divS false (cDay t) 401596622045184).1
theorem year_in {t : Int} (h0 : 0 ≤ t) (h1 : t ≤ 157766400000) : divS false (cDay t) 401596622045184 = (yearS t, false) ∧ 0 ≤ yearS t ∧ yearS t ≤ 5497558138880 := by
 have d1 : 0 ≤ cDay t ∧ cDay t ≤ 2007708232318976 := by unfold cDay rnd; omega
 obtain ⟨m, e, p1, p2, p3⟩ := partS_near (cDay t) 1099511627776 401596622045184 (numB_of ⟨by omega, by omega⟩) (by rfl) (by rfl) (by decide) (by
  rw [show sz 1099511627776 = 1099511627776 by rfl]
  have := sz_le (a := cDay t) (A := 2007708232318976) ⟨by omega, by omega⟩
  omega)
 have e' : divS false (cDay t) 401596622045184 = (m, false) := e
 have h : yearS t = m := by unfold yearS; rw [e']
 rw [h]
 exact ⟨e', p3 (by omega), by omega⟩
structure YearT (y a b x c : Int) : Prop where
 hm : mulS false y b = (x, false)
 ha : addS false a x = (c, false)
theorem year_g {y : Int} (y0 : 0 ≤ y) (y1 : y ≤ 5497558138880) {n m : Nat} (h : n ≤ 2) : YearT y (fG n m) (fGy n m) (mulS false y (fGy n m)).1 (gS y n m) := by
 obtain ⟨x, e, l, u⟩ := year_at y0 y1 (fGy_bd n m)
 have a := fGy_bd n m; have b := fG_bd n m
 have := a.lo; have := a.hi; have := b.lo; have := b.hi
 refine ⟨by rw [e], ?_⟩
 unfold gS
 rw [if_pos h, e]
 exact add_near (K := 32400000000000) (L := 200000000000) b ⟨by show _ ≤ x; omega, by show x ≤ _; omega⟩ (by decide) (by decide) (by decide)
theorem year_h {y : Int} (y0 : 0 ≤ y) (y1 : y ≤ 5497558138880) {n m : Nat} (h : n ≤ 2) : YearT y (fH n m) (fHy n m) (mulS false y (fHy n m)).1 (hS y n m) := by
 obtain ⟨x, e, l, u⟩ := year_at y0 y1 (fHy_bd n m)
 have a := fHy_bd n m; have b := fH_bd n m
 have := a.lo; have := a.hi; have := b.lo; have := b.hi
 refine ⟨by rw [e], ?_⟩
 unfold hS
 rw [if_pos h, e]
 exact add_near (K := 32400000000000) (L := 200000000000) b ⟨by show _ ≤ x; omega, by show x ≤ _; omega⟩ (by decide) (by decide) (by decide)
abbrev numIn (n m t : Int) : Prop := 1 ≤ n ∧ n ≤ 6 ∧ 0 ≤ m ∧ m ≤ n ∧ 0 ≤ t ∧ t ≤ 157766400000
def numS (bad : Bool) (n m t : Int) : (Int × Int) × Bool := if bad = false ∧ numIn n m t then ((gS (yearS t) n.toNat m.toNat, hS (yearS t) n.toNat m.toNat), false) else ((0, 0), true)
theorem numS_out {n m t : Int} (h : ¬ numIn n m t) : numS false n m t = ((0, 0), true) := if_neg (fun k => h k.2)
theorem numS_in {N M : Nat} {t : Int} (h1 : 1 ≤ N) (h6 : N ≤ 6) (hm : M ≤ N) (t0 : 0 ≤ t) (t1 : t ≤ 157766400000) : numS false (N : Int) (M : Int) t = ((gS (yearS t) N M, hS (yearS t) N M), false) := by
 unfold numS
 rw [if_pos ⟨rfl, by omega, by omega, by omega, by omega, t0, t1⟩, Int.toNat_natCast, Int.toNat_natCast]
end Go.Proofs.YtbophanlmkbfeaaGreatDoor
namespace Go.Proofs.YtbophanlmkbfeaaGreatDoor
def lonS (bad : Bool) (p : V3) (w : Int) : (Int × Int) × Bool :=
 if w < 1048576 then ((1099511627776, 0), bad) else (((divS bad p.1 w).1, (divS (divS bad p.1 w).2 p.2.1 w).1), (divS (divS bad p.1 w).2 p.2.1 w).2)
structure EarthT (p : V3) (t r : Int) (x y z : Int) : Type where
 (wn c s u v nr : Int)
 (g tt : Nat → Int)
 (P D Q G H : Nat → Nat → Int)
 (st : Nat → Nat → V3)
 hw : vNormS false (p.1, p.2.1, 0) = (wn, false)
 hc : divS false p.2.2 r = (c, false)
 hs : divS false wn r = (s, false)
 hl : lonS false p wn = ((u, v), false)
 hq : divS false 7005208482886 r = (nr, false)
 g0 : g 0 = 1099511627776
 g7 : g 7 = 0
 W : ∀ m, m < 6 → Nonempty (WaveT (g m) (g (7 + m)) u v (g (m + 1)) (g (8 + m)))
 Z : Tri c s P D Q
 ic : I64 c
 is : I64 s
 t0 : mulS false nr nr = (tt 0, false)
 tn : ∀ k, k < 6 → mulS false (tt k) nr = (tt (k + 1), false)
 N : ∀ n m : Nat, 1 ≤ n → n ≤ 6 → m ≤ n → numS false (n : Int) (m : Int) t = ((G n m, H n m), false)
 s0 : st 1 0 = (0, 0, 0)
 sn : ∀ n, 1 ≤ n → n ≤ 6 → st n (n + 1) = st (n + 1) 0
 T : ∀ n m : Nat, 1 ≤ n → n ≤ 6 → m ≤ n → TermT (n : Int) (m : Int) (tt n) (g m) (g (7 + m)) (G n m) (H n m) (P n m) (D n m) (Q n m) (st n m).1 (st n m).2.1 (st n m).2.2 (st n (m + 1)).1 (st n (m + 1)).2.1 (st n (m + 1)).2.2
 V : VecT c s u v (st 7 0).1 (st 7 0).2.1 (st 7 0).2.2 x y z
end Go.Proofs.YtbophanlmkbfeaaGreatDoor
