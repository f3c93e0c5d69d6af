/-
  The shell from 6378 to 8378 km, cut into boxes that are well, for the seat YtmhcfkcpoecokaaDoor. No Go text in sight. (Made by program.)
  The field in axes that turn with the Earth, step by step: nothing goes bad 6000 to 10000 km from the middle; in the shell it is 3.05 to 89.1 long, for the seat YtmhcfkcpoecokaaDoor. No Go text in sight.
  The field in the sky's axes: it is there, 3 to 90 long (FieldThere), for the seat YtmhcfkcpoecokaaDoor. No Go text in sight.
-/
import Derived.Test.YtmhcfkcpoecokaaDoorJC
import Derived.Test.YtmhcfkcpoecokaaDoorJB
namespace Go.Proofs.YtmhcfkcpoecokaaDoor

abbrev Strip := Iv × Iv × List (Iv × Iv)
/-- From behind lo up to hi, without a hole. -/
def chain (hi : Int) : Int → List Iv → Bool
  | lo, [] => decide (hi ≤ lo)
  | lo, X :: l => decide (X.1 ≤ lo + 1) && chain hi X.2 l
theorem chain_get {hi x : Int} (hx : x ≤ hi) : ∀ (l : List Iv) (lo : Int), chain hi lo l = true → lo < x → ∃ X, X ∈ l ∧ X.1 ≤ x ∧ x ≤ X.2
  | [], lo, h, k => by
    have := of_decide_eq_true h
    omega
  | X :: l, lo, h, k => by
    unfold chain at h
    simp only [Bool.and_eq_true, decide_eq_true_eq] at h
    by_cases c : x ≤ X.2
    · exact ⟨X, List.mem_cons_self, by omega, c⟩
    · obtain ⟨Y, m, a, b⟩ := chain_get hx l X.2 h.2 (by omega)
      exact ⟨Y, List.mem_cons_of_mem _ m, a, b⟩
/-- The sine of a cosine that lies in C, from the first on, and up to the second. -/
def sineOK (C S : Iv) : Bool :=
  decide (1208925819614629174706176 + 4398046511104 ≤ S.2 * S.2 + (if C.1 ≤ 0 ∧ 0 ≤ C.2 then 0 else min (C.1 * C.1) (C.2 * C.2))) && decide (0 ≤ S.2) &&
  (decide (S.1 ≤ 0) || decide (S.1 * S.1 + max (C.1 * C.1) (C.2 * C.2) ≤ 1208925819614629174706176 - 4398046511104))
def stripOK (Z : Strip) : Bool := sineOK Z.1 Z.2.1 && chain 1098315776674 836129616317 (Z.2.2.map Prod.fst) && Z.2.2.all fun b => boxOK Z.1 Z.2.1 b.1 b.2.1 b.2.2
theorem sine_get {C S : Iv} {c s : Int} (ok : sineOK C S = true) (ic : In C c) (s0 : 0 ≤ s) (cs : Ab (c * c + s * s - 1208925819614629174706176) 4398046511104) : In S s := by
  unfold sineOK at ok
  simp only [Bool.and_eq_true, Bool.or_eq_true, decide_eq_true_eq] at ok
  obtain ⟨⟨o1, o2⟩, o3⟩ := ok
  have c1 := ic.lo; have c2 := ic.hi
  have k1 := cs.lo; have k2 := cs.hi
  have cc := sq_nonneg c
  refine in_mk ?_ ?_
  · rcases o3 with h | h
    · omega
    · have m : c * c ≤ max (C.1 * C.1) (C.2 * C.2) := by
        have := (box_mul (a := C.1) (b := C.2) (c := C.1) (d := C.2) (x := c) (y := c) (by omega) (by omega) (by omega) (by omega)).2
        unfold max4 at this
        have e := Int.mul_comm C.2 C.1
        have p := lin_le (a := C.1) (b := C.2) (x := C.1) (y := C.2) (by omega) (by omega)
        have : C.1 * C.2 ≤ max (C.1 * C.1) (C.2 * C.2) := by
          have := sq_nonneg (C.1 - C.2)
          have e2 : (C.1 - C.2) * (C.1 - C.2) = C.1 * C.1 + C.2 * C.2 - 2 * (C.1 * C.2) := by grind
          omega
        omega
      apply Classical.byContradiction
      intro g
      have := Int.mul_le_mul (show s + 1 ≤ S.1 by omega) (show s + 1 ≤ S.1 by omega) (by omega) (by omega)
      have e : (s + 1) * (s + 1) = s * s + 2 * s + 1 := by grind
      omega
  · have m : (if C.1 ≤ 0 ∧ 0 ≤ C.2 then 0 else min (C.1 * C.1) (C.2 * C.2)) ≤ c * c := by
      split
      · exact cc
      · rename_i g
        by_cases h : 0 < C.1
        · have := Int.mul_le_mul (show C.1 ≤ c by omega) (show C.1 ≤ c by omega) (by omega) (by omega)
          omega
        · have := Int.mul_le_mul (show -C.2 ≤ -c by omega) (show -C.2 ≤ -c by omega) (by omega) (by omega)
          rw [Int.neg_mul_neg, Int.neg_mul_neg] at this
          omega
    apply Classical.byContradiction
    intro g
    have := Int.mul_le_mul (show S.2 + 1 ≤ s by omega) (show S.2 + 1 ≤ s by omega) (by omega) (by omega)
    have e : (S.2 + 1) * (S.2 + 1) = S.2 * S.2 + 2 * S.2 + 1 := by grind
    omega
def strip0 : Strip :=
  ((-1099511627776, -1078384820154), (0, 214504077539), [((836129616317, 967222696495), (-989, 139)), ((967222696495, 1098315776674), (-996, 69))])
def strip1 : Strip :=
  ((-1078384820154, -1052167026225), (214504077516, 319171378015), [((836129616317, 967222696495), (-882, 469)), ((967222696495, 1098315776674), (-847, 529))])
def strip2 : Strip :=
  ((-1052167026225, -1015816288660), (319171378000, 420764883649), [((836129616317, 967222696495), (-765, 642)), ((967222696495, 1032769236584), (-808, 587)), ((1032769236584, 1065542506629), (-808, 587)), ((1065542506629, 1098315776674), (-808, 587))])
def strip3 : Strip :=
  ((-1015816288660, -993946739174), (420764883637, 470101796747), [((836129616317, 967222696495), (-718, 694)), ((967222696495, 1098315776674), (-668, 742))])
def strip4 : Strip :=
  ((-993946739174, -969682684933), (470101796736, 518306193442), [((836129616317, 967222696495), (-615, 787)), ((967222696495, 1098315776674), (-615, 787))])
def strip5 : Strip :=
  ((-969682684933, -943082580171), (518306193432, 565261945117), [((836129616317, 967222696495), (-558, 828)), ((967222696495, 1032769236584), (-668, 742)), ((1032769236584, 1098315776674), (-615, 787))])
def strip6 : Strip :=
  ((-943082580171, -914210506869), (565261945107, 610855931255), [((836129616317, 901676156406), (-718, 694)), ((901676156406, 967222696495), (-668, 742)), ((967222696495, 1032769236584), (-615, 787)), ((1032769236584, 1098315776674), (-558, 828))])
def strip7 : Strip :=
  ((-914210506869, -883136020380), (610855931246, 654978311952), [((836129616317, 901676156406), (-718, 694)), ((901676156406, 967222696495), (-615, 787)), ((967222696495, 1032769236584), (-558, 828)), ((1032769236584, 1098315776674), (-499, 865))])
def strip8 : Strip :=
  ((-883136020380, -849933981864), (654978311943, 697522792525), [((836129616317, 901676156406), (-668, 742)), ((901676156406, 967222696495), (-615, 787)), ((967222696495, 1032769236584), (-499, 865)), ((1032769236584, 1098315776674), (-438, 898))])
def strip9 : Strip :=
  ((-849933981864, -814684377941), (697522792517, 738386879595), [((836129616317, 901676156406), (-615, 787)), ((901676156406, 967222696495), (-558, 828)), ((967222696495, 1032769236584), (-438, 898)), ((1032769236584, 1098315776674), (-438, 898))])
def strip10 : Strip :=
  ((-814684377941, -777472127993), (738386879587, 777472127998), [((836129616317, 901676156406), (-558, 828)), ((901676156406, 967222696495), (-499, 865)), ((967222696495, 1032769236584), (-438, 898)), ((1032769236584, 1065542506629), (-499, 865)), ((1065542506629, 1098315776674), (-438, 898))])
def strip11 : Strip :=
  ((-777472127993, -738386879591), (777472127990, 814684377945), [((836129616317, 901676156406), (-558, 828)), ((901676156406, 967222696495), (-499, 865)), ((967222696495, 1032769236584), (-374, 926)), ((1032769236584, 1065542506629), (-438, 898)), ((1065542506629, 1098315776674), (-438, 898))])
def strip12 : Strip :=
  ((-738386879591, -697522792520), (814684377938, 849933981869), [((836129616317, 901676156406), (-499, 865)), ((901676156406, 967222696495), (-438, 898)), ((967222696495, 1032769236584), (-374, 926)), ((1032769236584, 1065542506629), (-438, 898)), ((1065542506629, 1098315776674), (-374, 926))])
def strip13 : Strip :=
  ((-697522792520, -654978311947), (849933981861, 883136020384), [((836129616317, 901676156406), (-438, 898)), ((901676156406, 967222696495), (-438, 898)), ((967222696495, 999995966539), (-499, 865)), ((999995966539, 1032769236584), (-438, 898)), ((1032769236584, 1065542506629), (-438, 898)), ((1065542506629, 1098315776674), (-374, 926))])
def strip14 : Strip :=
  ((-654978311947, -610855931251), (883136020377, 914210506872), [((836129616317, 901676156406), (-438, 898)), ((901676156406, 967222696495), (-374, 926)), ((967222696495, 999995966539), (-499, 865)), ((999995966539, 1032769236584), (-438, 898)), ((1032769236584, 1065542506629), (-438, 898)), ((1065542506629, 1098315776674), (-374, 926))])
def strip15 : Strip :=
  ((-610855931251, -565261945111), (914210506865, 943082580175), [((836129616317, 901676156406), (-374, 926)), ((901676156406, 967222696495), (-374, 926)), ((967222696495, 999995966539), (-438, 898)), ((999995966539, 1032769236584), (-438, 898)), ((1032769236584, 1065542506629), (-374, 926)), ((1065542506629, 1098315776674), (-374, 926))])
def strip16 : Strip :=
  ((-565261945111, -518306193435), (943082580168, 969682684937), [((836129616317, 901676156406), (-374, 926)), ((901676156406, 967222696495), (-308, 950)), ((967222696495, 1032769236584), (-308, 950)), ((1032769236584, 1065542506629), (-374, 926)), ((1065542506629, 1098315776674), (-374, 926))])
def strip17 : Strip :=
  ((-518306193435, -470101796741), (969682684931, 993946739177), [((836129616317, 901676156406), (-308, 950)), ((901676156406, 967222696495), (-308, 950)), ((967222696495, 1032769236584), (-241, 969)), ((1032769236584, 1065542506629), (-374, 926)), ((1065542506629, 1098315776674), (-374, 926))])
def strip18 : Strip :=
  ((-470101796741, -420764883642), (993946739171, 1015816288663), [((836129616317, 901676156406), (-241, 969)), ((901676156406, 967222696495), (-241, 969)), ((967222696495, 1032769236584), (-241, 969)), ((1032769236584, 1065542506629), (-374, 926)), ((1065542506629, 1098315776674), (-374, 926))])
def strip19 : Strip :=
  ((-420764883642, -319171378006), (1015816288657, 1052167026228), [((836129616317, 901676156406), (-104, 993)), ((901676156406, 967222696495), (-104, 993)), ((967222696495, 999995966539), (-173, 984)), ((999995966539, 1032769236584), (-173, 984)), ((1032769236584, 1065542506629), (-173, 984)), ((1065542506629, 1098315776674), (-173, 984))])
def strip20 : Strip :=
  ((-319171378006, -214504077523), (1052167026222, 1078384820157), [((836129616317, 901676156406), (-34, 998)), ((901676156406, 967222696495), (-34, 998)), ((967222696495, 1032769236584), (-34, 998)), ((1032769236584, 1098315776674), (-34, 998))])
def strip21 : Strip :=
  ((-214504077523, 0), (1078384820151, 1099511627778), [((836129616317, 901676156406), (-34, 998)), ((901676156406, 967222696495), (-34, 998)), ((967222696495, 1032769236584), (-34, 998)), ((1032769236584, 1098315776674), (-34, 998))])
def strip22 : Strip :=
  ((0, 420764883642), (1015816288657, 1099511627778), [((836129616317, 901676156406), (34, 998)), ((901676156406, 967222696495), (34, 998)), ((967222696495, 1032769236584), (34, 998)), ((1032769236584, 1098315776674), (34, 998))])
def strip23 : Strip :=
  ((420764883642, 610855931251), (914210506865, 1015816288663), [((836129616317, 901676156406), (374, 926)), ((901676156406, 967222696495), (241, 969)), ((967222696495, 1032769236584), (104, 993)), ((1032769236584, 1098315776674), (34, 998))])
def strip24 : Strip :=
  ((610855931251, 697522792520), (849933981861, 914210506872), [((836129616317, 967222696495), (615, 787)), ((967222696495, 1098315776674), (374, 926))])
def strip25 : Strip :=
  ((697522792520, 777472127993), (777472127990, 849933981869), [((836129616317, 967222696495), (808, 587)), ((967222696495, 1098315776674), (615, 787))])
def strip26 : Strip :=
  ((777472127993, 849933981864), (697522792517, 777472127998), [((836129616317, 967222696495), (939, 341)), ((967222696495, 1098315776674), (960, 275))])
def strip27 : Strip :=
  ((849933981864, 914210506869), (610855931246, 697522792525), [((836129616317, 967222696495), (977, 207)), ((967222696495, 1098315776674), (999, 0))])
def strip28 : Strip :=
  ((914210506869, 969682684933), (518306193432, 610855931255), [((836129616317, 967222696495), (996, 69)), ((967222696495, 1098315776674), (999, 0))])
def strip29 : Strip :=
  ((969682684933, 1015816288660), (420764883637, 518306193442), [((836129616317, 967222696495), (999, 0)), ((967222696495, 1098315776674), (999, 0))])
def strip30 : Strip :=
  ((1015816288660, 1052167026225), (319171378000, 420764883649), [((836129616317, 967222696495), (999, 0)), ((967222696495, 1098315776674), (999, 0))])
def strip31 : Strip :=
  ((1052167026225, 1078384820154), (214504077516, 319171378015), [((836129616317, 967222696495), (999, 0)), ((967222696495, 1098315776674), (999, 0))])
def strip32 : Strip :=
  ((1078384820154, 1099511627776), (0, 214504077539), [((836129616317, 967222696495), (999, 0)), ((967222696495, 1098315776674), (999, 0))])
def strips : List Strip := [strip0, strip1, strip2, strip3, strip4, strip5, strip6, strip7, strip8, strip9, strip10, strip11, strip12, strip13, strip14, strip15, strip16, strip17, strip18, strip19, strip20, strip21, strip22, strip23, strip24, strip25, strip26, strip27, strip28, strip29, strip30, strip31, strip32]
theorem strip0_ok : stripOK strip0 = true := by decide +kernel
theorem strip1_ok : stripOK strip1 = true := by decide +kernel
theorem strip2_ok : stripOK strip2 = true := by decide +kernel
theorem strip3_ok : stripOK strip3 = true := by decide +kernel
theorem strip4_ok : stripOK strip4 = true := by decide +kernel
theorem strip5_ok : stripOK strip5 = true := by decide +kernel
theorem strip6_ok : stripOK strip6 = true := by decide +kernel
theorem strip7_ok : stripOK strip7 = true := by decide +kernel
theorem strip8_ok : stripOK strip8 = true := by decide +kernel
theorem strip9_ok : stripOK strip9 = true := by decide +kernel
theorem strip10_ok : stripOK strip10 = true := by decide +kernel
theorem strip11_ok : stripOK strip11 = true := by decide +kernel
theorem strip12_ok : stripOK strip12 = true := by decide +kernel
theorem strip13_ok : stripOK strip13 = true := by decide +kernel
theorem strip14_ok : stripOK strip14 = true := by decide +kernel
theorem strip15_ok : stripOK strip15 = true := by decide +kernel
theorem strip16_ok : stripOK strip16 = true := by decide +kernel
theorem strip17_ok : stripOK strip17 = true := by decide +kernel
theorem strip18_ok : stripOK strip18 = true := by decide +kernel
theorem strip19_ok : stripOK strip19 = true := by decide +kernel
theorem strip20_ok : stripOK strip20 = true := by decide +kernel
theorem strip21_ok : stripOK strip21 = true := by decide +kernel
theorem strip22_ok : stripOK strip22 = true := by decide +kernel
theorem strip23_ok : stripOK strip23 = true := by decide +kernel
theorem strip24_ok : stripOK strip24 = true := by decide +kernel
theorem strip25_ok : stripOK strip25 = true := by decide +kernel
theorem strip26_ok : stripOK strip26 = true := by decide +kernel
theorem strip27_ok : stripOK strip27 = true := by decide +kernel
theorem strip28_ok : stripOK strip28 = true := by decide +kernel
theorem strip29_ok : stripOK strip29 = true := by decide +kernel
theorem strip30_ok : stripOK strip30 = true := by decide +kernel
theorem strip31_ok : stripOK strip31 = true := by decide +kernel
theorem strip32_ok : stripOK strip32 = true := by decide +kernel
theorem strips_ok : ∀ Z ∈ strips, stripOK Z = true := by
  intro Z h
  simp only [strips, List.mem_cons, List.not_mem_nil, or_false] at h
  rcases h with rfl | rfl | rfl | rfl | rfl | rfl | rfl | rfl | rfl | rfl | rfl | rfl | rfl | rfl | rfl | rfl | rfl | rfl | rfl | rfl | rfl | rfl | rfl | rfl | rfl | rfl | rfl | rfl | rfl | rfl | rfl | rfl | rfl
  · exact strip0_ok
  · exact strip1_ok
  · exact strip2_ok
  · exact strip3_ok
  · exact strip4_ok
  · exact strip5_ok
  · exact strip6_ok
  · exact strip7_ok
  · exact strip8_ok
  · exact strip9_ok
  · exact strip10_ok
  · exact strip11_ok
  · exact strip12_ok
  · exact strip13_ok
  · exact strip14_ok
  · exact strip15_ok
  · exact strip16_ok
  · exact strip17_ok
  · exact strip18_ok
  · exact strip19_ok
  · exact strip20_ok
  · exact strip21_ok
  · exact strip22_ok
  · exact strip23_ok
  · exact strip24_ok
  · exact strip25_ok
  · exact strip26_ok
  · exact strip27_ok
  · exact strip28_ok
  · exact strip29_ok
  · exact strip30_ok
  · exact strip31_ok
  · exact strip32_ok
theorem strips_chain : chain 1099511627776 (-1099511627777) (strips.map Prod.fst) = true := by decide +kernel
/-- Each place of the shell lies in a box that is well. -/
theorem found {c s q : Int} (cb : Ab c 1099511627776) (s0 : 0 ≤ s) (cs : Ab (c * c + s * s - 1208925819614629174706176) 4398046511104) (q0 : 836129616317 < q) (q1 : q ≤ 1098315776674) :
    ∃ (C S Q : Iv) (r d : Int), In C c ∧ In S s ∧ In Q q ∧ boxOK C S Q r d = true := by
  obtain ⟨X, hX, x1, x2⟩ := chain_get cb.hi _ _ strips_chain (by have := cb.lo; omega)
  obtain ⟨Z, hZ, rfl⟩ := List.mem_map.1 hX
  have ok := strips_ok Z hZ
  unfold stripOK at ok
  simp only [Bool.and_eq_true] at ok
  obtain ⟨⟨o1, o2⟩, o3⟩ := ok
  have ic : In Z.1 c := in_mk x1 x2
  obtain ⟨Y, hY, y1, y2⟩ := chain_get q1 _ _ o2 q0
  obtain ⟨b, hb, rfl⟩ := List.mem_map.1 hY
  rw [List.all_eq_true] at o3
  exact ⟨Z.1, Z.2.1, b.1, b.2.1, b.2.2, ic, sine_get o1 ic s0 cs, in_mk y1 y2, o3 b hb⟩
end Go.Proofs.YtmhcfkcpoecokaaDoor
namespace Go.Proofs.YtmhcfkcpoecokaaDoor

/-- Up, south and east as x, y and z: nothing goes bad. -/
theorem vec_good {w : V3} {c s u v : Int} (B : St3 w 756940800000023520) (cb : Ab c 1099511627776) (sb : Ab s 1099511627776) (ub : Ab u 1099511627776) (vb : Ab v 1099511627776) : ∃ x, vecS false w c s u v = (x, false) := by
  obtain ⟨v1, h1, _, b1⟩ := mul_x (B := 756940800000023521) B.a sb (by decide) (by decide) (by decide) (by decide)
  obtain ⟨v2, h2, _, b2⟩ := mul_x (B := 756940800000023521) B.b cb (by decide) (by decide) (by decide) (by decide)
  have h3 := add_near b1 b2 (by decide) (by decide) (by decide)
  have b3 := b1.add b2
  obtain ⟨v4, h4, _, b4⟩ := mul_x (B := 1513881600000047043) b3 ub (by decide) (by decide) (by decide) (by decide)
  obtain ⟨v5, h5, _, b5⟩ := mul_x (B := 756940800000023521) B.c vb (by decide) (by decide) (by decide) (by decide)
  have h6 := sub_near b4 b5 (by decide) (by decide) (by decide)
  obtain ⟨v7, h7, _, b7⟩ := mul_x (B := 1513881600000047043) b3 vb (by decide) (by decide) (by decide) (by decide)
  obtain ⟨v8, h8, _, b8⟩ := mul_x (B := 756940800000023521) B.c ub (by decide) (by decide) (by decide) (by decide)
  have h9 := add_near b7 b8 (by decide) (by decide) (by decide)
  obtain ⟨v10, h10, _, b10⟩ := mul_x (B := 756940800000023521) B.a cb (by decide) (by decide) (by decide) (by decide)
  obtain ⟨v11, h11, _, b11⟩ := mul_x (B := 756940800000023521) B.b sb (by decide) (by decide) (by decide) (by decide)
  have h12 := sub_near b10 b11 (by decide) (by decide) (by decide)
  exact ⟨(v4 - v5, v7 + v8, v10 - v11), by unfold vecS; simp only [h1, h2, h3, h4, h5, h6, h7, h8, h9, h10, h11, h12]⟩
/-- The longitude: of a place that is as near to the axis as a meter, none. -/
abbrev LonAt (x y w u v : Int) : Prop := (w < 1048576 ∧ u = 1099511627776 ∧ v = 0) ∨ (1048576 ≤ w ∧ divS false x w = (u, false) ∧ divS false y w = (v, false) ∧ Ab (2 * (u * w - x * 1099511627776)) w ∧ Ab (2 * (v * w - y * 1099511627776)) w)
/-- All steps of the field in axes that turn with the Earth. -/
structure Earth (p : V3) (y r : Int) : Type where
  (w c s u v q : Int)
  (C S : Iv)
  (b : V3)
  W : Rt w (p.1 * p.1 + p.2.1 * p.2.1)
  hw : normS false p.1 p.2.1 0 = (w, false)
  hc : divS false p.2.2 r = (c, false)
  pc : Ab (2 * (c * r - p.2.2 * 1099511627776)) r
  hs : divS false w r = (s, false)
  ps : Ab (2 * (s * r - w * 1099511627776)) r
  lon : LonAt p.1 p.2.1 w u v
  hq : divS false 7005208482886 r = (q, false)
  pq : Ab (2 * (q * r - 7005208482886 * 1099511627776)) r
  cb : Ab c 1099511627776
  sb : Ab s 1099511627776
  s0 : 0 ≤ s
  cs : Ab (c * c + s * s - 1208925819614629174706176) 4398046511104
  Z : Sums C S (pt q) c s q y u v
  uv : 1208925819614629174706176 - 4398046511104 ≤ u * u + v * v
  hb : vecS false (outS c s q y u v 6) c s u v = (b, false)
theorem earth_at {p : V3} {y r : Int} (hr : normS false p.1 p.2.1 p.2.2 = (r, false)) (r0 : 6597069766656 ≤ r) (r1 : r ≤ 10995116277760) (y0 : 0 ≤ y) (y1 : y ≤ 5497558138880) : Nonempty (Earth p y r) := by
  obtain ⟨_, nx, ny, nz, _, _, R1, R2⟩ := normS_good hr
  have R : Rt r (p.1 * p.1 + p.2.1 * p.2.1 + p.2.2 * p.2.2) := ⟨by omega, R1, R2⟩
  have x0 := sq_nonneg p.1; have y0' := sq_nonneg p.2.1; have z0 := sq_nonneg p.2.2
  have rr := Int.mul_le_mul (show r + 1 ≤ 10995116277761 by omega) (show r + 1 ≤ 10995116277761 by omega) (by omega) (by decide)
  have hq2 := isq_spec (p.1 * p.1 + p.2.1 * p.2.1) (by omega) (by omega)
  have W : Rt (isq (p.1 * p.1 + p.2.1 * p.2.1)) (p.1 * p.1 + p.2.1 * p.2.1) := ⟨hq2.1, hq2.2.1, hq2.2.2⟩
  have wr : Ab (isq (p.1 * p.1 + p.2.1 * p.2.1)) r := sq_lt R.n0 (by have := R.hi; have := W.lo; omega)
  have hw : normS false p.1 p.2.1 0 = (isq (p.1 * p.1 + p.2.1 * p.2.1), false) := normS_make nx ny (by rfl) W.n0 (by have := wr.hi; omega) (by have := W.lo; omega) (by have := W.hi; omega)
  generalize isq (p.1 * p.1 + p.2.1 * p.2.1) = w at *
  have zr : Ab p.2.2 r := sq_lt R.n0 (by have := R.hi; omega)
  obtain ⟨c, hc, pc, _⟩ := div_x (K := 10995116277760) (B := 2199023255552) (zr.le r1) r0 r1 (by decide) (by decide) (by decide) (by decide) (by decide) (by decide)
  obtain ⟨s, hs, ps, _⟩ := div_x (K := 10995116277760) (B := 2199023255552) (wr.le r1) r0 r1 (by decide) (by decide) (by decide) (by decide) (by decide) (by decide)
  obtain ⟨q, hq, pq, _⟩ := div_x (a := 7005208482886) (K := 7005208482886) (B := 1168231104512) ⟨by decide, by decide⟩ r0 r1 (by decide) (by decide) (by decide) (by decide) (by decide) (by decide)
  obtain ⟨cb, sb, s0, cs, _, _⟩ := lat_one R W r0 pc ps
  have q0 : 0 ≤ q := by
    apply Classical.byContradiction
    intro g
    have := Int.mul_le_mul_of_nonneg_right (show 1 ≤ -q by omega) (show 0 ≤ r by omega)
    rw [Int.neg_mul] at this
    have := pq.lo
    omega
  have q1 : q ≤ 1168231104512 := by
    apply Classical.byContradiction
    intro g
    have := Int.mul_le_mul (show 1168231104513 ≤ q by omega) r0 (by decide) (by omega)
    have := pq.hi
    omega
  have L : ∃ u v, LonAt p.1 p.2.1 w u v ∧ Lon u v ∧ 1208925819614629174706176 - 4398046511104 ≤ u * u + v * v := by
    by_cases h : w < 1048576
    · exact ⟨1099511627776, 0, Or.inl ⟨h, rfl, rfl⟩, ⟨⟨by decide, by decide⟩, ⟨by decide, by decide⟩, by decide⟩, by decide⟩
    · have xw : Ab p.1 w := sq_lt W.n0 (by have := W.hi; omega)
      have yw : Ab p.2.1 w := sq_lt W.n0 (by have := W.hi; omega)
      have w1 : w ≤ 10995116277760 := by have := wr.hi; omega
      have w0 : 1048576 ≤ w := by omega
      have go (a : Int) (ha : Ab a w) (na : numB a = true) : ∃ m, divS false a w = (m, false) ∧ Ab (2 * (m * w - a * 1099511627776)) w := by
        obtain ⟨m, e, d1, d2, _⟩ := partS_near a 1099511627776 w na (by rfl) (numB_of ⟨by omega, by omega⟩) (by omega) (by
          rw [show sz 1099511627776 = 1099511627776 by rfl]
          have := sz_le ⟨ha.lo, ha.hi⟩
          omega)
        exact ⟨m, e, ⟨by omega, by omega⟩⟩
      obtain ⟨u, hu, pu⟩ := go p.1 xw nx
      obtain ⟨v, hv, pv⟩ := go p.2.1 yw ny
      obtain ⟨ub, vb, hi, lo, _, _⟩ := lon_one W w0 pu pv
      exact ⟨u, v, Or.inr ⟨w0, hu, hv, pu, pv⟩, ⟨ub, vb, hi⟩, lo⟩
  obtain ⟨u, v, la, ln, uv⟩ := L
  obtain ⟨C, S, _, _, _, iC, iS, _, ok⟩ := found (q := 1000000000000) cb s0 cs (by decide) (by decide)
  have rows : rowsOK C S = true := by
    unfold boxOK at ok
    simp only [Bool.and_eq_true] at ok
    exact ok.1.1.1.1.1.1.1
  have Z : Sums C S (pt q) c s q y u v := ⟨lies_at iC iS (pt_in q) (cb.le (by decide)) (sb.le (by decide)) q0 q1 rows, y0, y1, ln⟩
  obtain ⟨st, _, _, _⟩ := out_at Z 6 (by decide)
  obtain ⟨b, hb⟩ := vec_good (w := outS c s q y u v 6) ⟨st.a.le (by decide), st.b.le (by decide), st.c.le (by decide)⟩ cb sb ln.ub ln.vb
  exact ⟨⟨w, c, s, u, v, q, C, S, b, W, hw, hc, pc, hs, ps, la, hq, pq, cb, sb, s0, cs, Z, uv, hb⟩⟩
/-- In the shell. -/
theorem Earth.long {p : V3} {y r : Int} (E : Earth p y r) (r0 : 7012835785048 ≤ r) (r1 : r ≤ 9211859060600) : 11460000000000000000000000 ≤ E.b.1 * E.b.1 + E.b.2.1 * E.b.2.1 + E.b.2.2 * E.b.2.2 ∧ E.b.1 * E.b.1 + E.b.2.1 * E.b.2.1 + E.b.2.2 * E.b.2.2 ≤ 9581000000000000000000000000 ∧ St3 E.b 562949953421316 := by
  have q0 : 836129616317 < E.q := by
    apply Classical.byContradiction
    intro g
    have q0 := E.Z.L.q0
    have := Int.mul_le_mul (show E.q ≤ 836129616317 by omega) r1 (by omega) (by decide)
    have := E.pq.lo
    omega
  have q1 : E.q ≤ 1098315776674 := by
    apply Classical.byContradiction
    intro g
    have := Int.mul_le_mul (show 1098315776675 ≤ E.q by omega) r0 (by decide) (by omega)
    have := E.pq.hi
    omega
  obtain ⟨C, S, Q, a, d, iC, iS, iQ, ok⟩ := found E.cb E.s0 E.cs q0 q1
  have P : Put (gS y) (hS y) (fun m => (wv E.u E.v m).1) (fun m => (wv E.u E.v m).2) := ⟨gS_in E.Z.y0 E.Z.y1, hS_in E.Z.y0 E.Z.y1, fun m hm => wv_bd E.Z.W m hm, rfl, rfl⟩
  obtain ⟨L, ⟨B⟩⟩ := box_at iC iS iQ (E.cb.le (by decide)) (E.sb.le (by decide)) E.Z.L.q0 E.Z.L.q1 P ok
  obtain ⟨hi, lo⟩ := sums_bd ⟨L, E.Z.y0, E.Z.y1, E.Z.W⟩ B
  obtain ⟨x, e, n, st⟩ := vec_at (w := outS E.c E.s E.q y E.u E.v 6) (by omega) E.cb E.sb E.Z.W.ub E.Z.W.vb E.cs E.Z.W.hi E.uv
  have h := E.hb
  rw [e] at h
  have eb : x = E.b := congrArg Prod.fst h
  subst eb
  have := n.lo; have := n.hi
  have := sq_nonneg (outS E.c E.s E.q y E.u E.v 6).2.2
  exact ⟨by omega, by omega, st⟩
end Go.Proofs.YtmhcfkcpoecokaaDoor
namespace Go.Proofs.YtmhcfkcpoecokaaDoor

/-- Two numbers, turned by an angle: nothing goes bad, and they are as long as they were. -/
structure Turned (x y c s : Int) (D : Int) : Type where
  (m1 m2 m3 m4 : Int)
  h1 : mulS false x c = (m1, false)
  h2 : mulS false y s = (m2, false)
  h3 : mulS false y c = (m3, false)
  h4 : mulS false x s = (m4, false)
  hx : addS false m1 m2 = (m1 + m2, false)
  hy : subS false m3 m4 = (m3 - m4, false)
  fx : subS false m1 m2 = (m1 - m2, false)
  fy : addS false m3 m4 = (m3 + m4, false)
  b1 : Ab (m1 + m2) 4503599627370496
  b2 : Ab (m3 - m4) 4503599627370496
  d1 : Ab (m1 - m2) 4503599627370496
  d2 : Ab (m3 + m4) 4503599627370496
  n : Ab ((m1 + m2) * (m1 + m2) + (m3 - m4) * (m3 - m4) - (x * x + y * y)) D
  k : Ab ((m1 - m2) * (m1 - m2) + (m3 + m4) * (m3 + m4) - (x * x + y * y)) D
theorem turned_at {x y c s K M D : Int} (hx : Ab x K) (hy : Ab y K) (Z : Scs s c) (K1 : K ≤ 1125899906842624) (hM : 2 * (K * 1099511627832) + 1099511627776 ≤ 2 * (M * 1099511627776)) (M1 : M ≤ 2251799813685248)
    (hD : 2 * (1099511627776 * (2199023255552 * (M + M) + 1099511627776)) + (K * K + K * K) * 14293651161829 ≤ D * 1208925819614629174706176) : Nonempty (Turned x y c s D) := by
  have k2 : K * 1099511627832 ≤ 2535301200456458802993406410752 := by omega
  have b1 (a b : Int) (ha : Ab a K) (hb : Ab b 1099511627832) := mul_x (B := M) ha hb k2 (by omega) (by decide) hM
  obtain ⟨m1, h1, q1, c1⟩ := b1 x c hx Z.cb
  obtain ⟨m2, h2, q2, c2⟩ := b1 y s hy Z.sb
  obtain ⟨m3, h3, q3, c3⟩ := b1 y c hy Z.cb
  obtain ⟨m4, h4, q4, c4⟩ := b1 x s hx Z.sb
  have X : Ab (1099511627776 * (m1 + m2) - (x * c + y * s)) 1099511627776 := by
    have := q1.lo; have := q1.hi; have := q2.lo; have := q2.hi
    exact ⟨by omega, by omega⟩
  have Y : Ab (1099511627776 * (m3 - m4) - (y * c + x * -s)) 1099511627776 := by
    have := q3.lo; have := q3.hi; have := q4.lo; have := q4.hi
    rw [Int.mul_neg]
    exact ⟨by omega, by omega⟩
  have X' : Ab (1099511627776 * (m1 - m2) - (x * c + y * -s)) 1099511627776 := by
    have := q1.lo; have := q1.hi; have := q2.lo; have := q2.hi
    rw [Int.mul_neg]
    exact ⟨by omega, by omega⟩
  have Y' : Ab (1099511627776 * (m3 + m4) - (y * c + x * s)) 1099511627776 := by
    have := q3.lo; have := q3.hi; have := q4.lo; have := q4.hi
    exact ⟨by omega, by omega⟩
  have sX := sq_near X (c1.add c2)
  have sY := sq_near Y (c3.sub c4)
  have sX' := sq_near X' (c1.sub c2)
  have sY' := sq_near Y' (c3.add c4)
  have e : (x * c + y * s) * (x * c + y * s) + (y * c + x * -s) * (y * c + x * -s) = 1208925819614629174706176 * (x * x + y * y) + (x * x + y * y) * (c * c + s * s - 1208925819614629174706176) := by grind
  have e' : (x * c + y * -s) * (x * c + y * -s) + (y * c + x * s) * (y * c + x * s) = 1208925819614629174706176 * (x * x + y * y) + (x * x + y * y) * (c * c + s * s - 1208925819614629174706176) := by grind
  have xx := hx.mul hx; have yy := hy.mul hy
  have w : Ab (x * x + y * y) (K * K + K * K) := xx.add yy
  have m := w.mul Z.cs
  have l1 := sX.lo; have r1 := sX.hi; have l2 := sY.lo; have r2 := sY.hi; have l3 := sX'.lo; have r3 := sX'.hi; have l4 := sY'.lo; have r4 := sY'.hi; have l5 := m.lo; have r5 := m.hi
  refine ⟨⟨m1, m2, m3, m4, h1, h2, h3, h4, add_near c1 c2 (by omega) (by omega) (by omega), sub_near c3 c4 (by omega) (by omega) (by omega), sub_near c1 c2 (by omega) (by omega) (by omega), add_near c3 c4 (by omega) (by omega) (by omega),
    (c1.add c2).le (by omega), (c3.sub c4).le (by omega), (c1.sub c2).le (by omega), (c3.add c4).le (by omega), ?_, ?_⟩⟩
  · generalize (x * x + y * y) * (c * c + s * s - 1208925819614629174706176) = A at *
    generalize (x * c + y * s) * (x * c + y * s) = P1 at *
    generalize (y * c + x * -s) * (y * c + x * -s) = P2 at *
    generalize (m1 + m2) * (m1 + m2) = T1 at *
    generalize (m3 - m4) * (m3 - m4) = T2 at *
    generalize x * x + y * y = N at *
    generalize (K * K + K * K) * 14293651161829 = KK at *
    exact ⟨by omega, by omega⟩
  · generalize (x * x + y * y) * (c * c + s * s - 1208925819614629174706176) = A at *
    generalize (x * c + y * -s) * (x * c + y * -s) = P1 at *
    generalize (y * c + x * s) * (y * c + x * s) = P2 at *
    generalize (m1 - m2) * (m1 - m2) = T1 at *
    generalize (m3 + m4) * (m3 + m4) = T2 at *
    generalize x * x + y * y = N at *
    generalize (K * K + K * K) * 14293651161829 = KK at *
    exact ⟨by omega, by omega⟩
/-- All steps of the field in the sky's axes, in the shell. -/
structure Sky (p : V3) (y c s : Int) : Type where
  r : Int
  T : Turned p.1 p.2.1 c s 9007199254740992
  hr : normS false (T.m1 + T.m2) (T.m3 - T.m4) p.2.2 = (r, false)
  r0 : 7012835785048 ≤ r
  r1 : r ≤ 9211859060600
  E : Earth (T.m1 + T.m2, T.m3 - T.m4, p.2.2) y r
  V : Turned E.b.1 E.b.2.1 c s 576460752303423488
  N : Int
  hN : normS false (V.m1 - V.m2) (V.m3 + V.m4) E.b.2.2 = (N, false)
  N0 : 3298534883328 ≤ N
  N1 : N ≤ 98956046499840
theorem sky_at {p : V3} {y c s r : Int} (hr : normS false p.1 p.2.1 p.2.2 = (r, false)) (r0 : 7012835795048 ≤ r) (r1 : r ≤ 9211859050600) (y0 : 0 ≤ y) (y1 : y ≤ 5497558138880) (Z : Scs s c) : Nonempty (Sky p y c s) := by
  obtain ⟨_, nx, ny, nz, _, _, R1, R2⟩ := normS_good hr
  have x0 := sq_nonneg p.1; have y0' := sq_nonneg p.2.1; have z0 := sq_nonneg p.2.2
  have xr : Ab p.1 r := sq_lt (by omega) (by omega)
  have yr : Ab p.2.1 r := sq_lt (by omega) (by omega)
  have zr : Ab p.2.2 r := sq_lt (by omega) (by omega)
  obtain ⟨T⟩ := turned_at (K := 17592186044416) (M := 17592186045400) (D := 9007199254740992) (xr.le (by omega)) (yr.le (by omega)) Z (by decide) (by decide) (by decide) (by decide)
  have tn := T.n
  have t1 := tn.lo; have t2 := tn.hi
  have e1 : (r + 1) * (r + 1) = r * r + 2 * r + 1 := by grind
  rw [e1] at R2
  have q1 := Int.mul_le_mul (show 7012835795048 ≤ r by omega) (show 7012835795048 ≤ r by omega) (by decide) (by omega)
  have q2 := Int.mul_le_mul r1 r1 (by omega) (by decide)
  have ax := sq_nonneg (T.m1 + T.m2); have ay := sq_nonneg (T.m3 - T.m4)
  have hs := isq_spec ((T.m1 + T.m2) * (T.m1 + T.m2) + (T.m3 - T.m4) * (T.m3 - T.m4) + p.2.2 * p.2.2) (by omega) (by omega)
  generalize hn : isq ((T.m1 + T.m2) * (T.m1 + T.m2) + (T.m3 - T.m4) * (T.m3 - T.m4) + p.2.2 * p.2.2) = n at hs
  have n0 : 7012835785048 ≤ n := by
    apply Classical.byContradiction
    intro g
    have := Int.mul_le_mul (show n + 1 ≤ 7012835785048 by omega) (show n + 1 ≤ 7012835785048 by omega) (by omega) (by decide)
    omega
  have n1 : n ≤ 9211859060600 := by
    apply Classical.byContradiction
    intro g
    have := Int.mul_le_mul (show 9211859060601 ≤ n by omega) (show 9211859060601 ≤ n by omega) (by decide) (by omega)
    omega
  have hn' : normS false (T.m1 + T.m2) (T.m3 - T.m4) p.2.2 = (n, false) := normS_make (T.b1.numB (by decide)) (T.b2.numB (by decide)) nz hs.1 (by omega) hs.2.1 hs.2.2
  obtain ⟨E⟩ := earth_at (p := (T.m1 + T.m2, T.m3 - T.m4, p.2.2)) hn' (by omega) (by omega) y0 y1
  obtain ⟨lo, hi, _⟩ := E.long n0 n1
  have b0 := sq_nonneg E.b.1; have b1 := sq_nonneg E.b.2.1; have b2 := sq_nonneg E.b.2.2
  have B0 : Ab E.b.1 140737488355327 := sq_lt (by decide) (by omega)
  have B1 : Ab E.b.2.1 140737488355327 := sq_lt (by decide) (by omega)
  have B2 : Ab E.b.2.2 140737488355327 := sq_lt (by decide) (by omega)
  obtain ⟨V⟩ := turned_at (K := 140737488355328) (M := 140737488362497) (D := 576460752303423488) (B0.le (by decide)) (B1.le (by decide)) Z (by decide) (by decide) (by decide) (by decide)
  have vn := V.k
  have v1 := vn.lo; have v2 := vn.hi
  have cx := sq_nonneg (V.m1 - V.m2); have cy := sq_nonneg (V.m3 + V.m4)
  have hv := isq_spec ((V.m1 - V.m2) * (V.m1 - V.m2) + (V.m3 + V.m4) * (V.m3 + V.m4) + E.b.2.2 * E.b.2.2) (by omega) (by omega)
  generalize isq ((V.m1 - V.m2) * (V.m1 - V.m2) + (V.m3 + V.m4) * (V.m3 + V.m4) + E.b.2.2 * E.b.2.2) = N at hv
  have N0 : 3298534883328 ≤ N := by
    apply Classical.byContradiction
    intro g
    have := Int.mul_le_mul (show N + 1 ≤ 3298534883328 by omega) (show N + 1 ≤ 3298534883328 by omega) (by omega) (by decide)
    omega
  have N1 : N ≤ 98956046499840 := by
    apply Classical.byContradiction
    intro g
    have := Int.mul_le_mul (show 98956046499841 ≤ N by omega) (show 98956046499841 ≤ N by omega) (by decide) (by omega)
    omega
  exact ⟨⟨n, T, hn', n0, n1, E, V, N, normS_make (V.d1.numB (by decide)) (V.d2.numB (by decide)) (B2.numB (by decide)) hv.1 (by omega) hv.2.1 hv.2.2, N0, N1⟩⟩
end Go.Proofs.YtmhcfkcpoecokaaDoor
