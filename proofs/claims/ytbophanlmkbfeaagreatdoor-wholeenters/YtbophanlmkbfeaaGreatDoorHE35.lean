/-
A part.
A part.
A part.
-/
import Derived.Laws.StructEq
import Derived.ChangeKeysEq
import Derived.Test.YtbophanlmkbfeaaGreatDoorHE34
import Derived.Test.YtbophanlmkbfeaaGreatDoorHE19
import Derived.Test.YtbophanlmkbfeaaGreatDoorHE01
import Derived.Test.YtbophanlmkbfeaaGreatDoorHE03
import Derived.Test.YtbophanlmkbfeaaGreatDoorHE33
namespace Go.Proofs.YtbophanlmkbfeaaGreatDoor
open Go.RowKit
def eNor : Ct Tryz.prog := flowCt Tryz.prog 33 (then' cI (then' cI (lone' cI))) (fun bad x => normS bad x.1 x.2.1 x.2.2) cI (go_of Tryz.func33 (by kernel_rfl) (by kernel_rfl)) (fun b bad x w _ _ hw => rNorm_any b bad x.1 x.2.1 x.2.2 w hw)
def eDiv : Ct Tryz.prog := flowCt Tryz.prog 76 (then' cI (lone' cI)) (fun bad x => divS bad x.1 x.2) cI (go_of Tryz.func76 (by kernel_rfl) (by kernel_rfl)) (fun b bad x w _ _ hw => rDiv_any b bad x.1 x.2 w hw)
def ePar : Ct Tryz.prog := flowCt Tryz.prog 37 (then' cI (then' cI (lone' cI))) (fun bad x => partS bad x.1 x.2.1 x.2.2) cI (go_of Tryz.func37 (by kernel_rfl) (by kernel_rfl)) (fun b bad x w _ _ hw => rPart_any b bad x.1 x.2.1 x.2.2 w hw)
def eFai : Ct Tryz.prog := flowCt Tryz.prog 75 none' (fun _ _ => ((), true)) cU (go_of Tryz.func75 (by kernel_rfl) (by kernel_rfl)) (fun b bad _ w _ _ hw => rFail_any b bad w hw)
theorem edon_fx : FlowOk Tryz.prog 77 (lone' cV3) (fun bad x => soundS bad x) cV3 := flow_sx (tbl := []) (dirty := fun _ => []) (n := 8) xmixA Tryz.func77 rfl (fun bad x Post => by cases bad <;> kernel_rfl)
def eDon : Ct Tryz.prog := flowCt Tryz.prog 77 (lone' cV3) (fun bad x => soundS bad x) cV3 (go_of Tryz.func77 (by kernel_rfl) (by kernel_rfl)) edon_fx
theorem enor_fx : FlowOk Tryz.prog 38 (lone' cV3) (fun bad x => uNormS bad x) cI := flow_sx (tbl := [eNor]) (dirty := fun _ => []) (n := 8) xmixA Tryz.func38 rfl (fun bad x Post => by kernel_rfl)
def eVno : Ct Tryz.prog := flowCt Tryz.prog 38 (lone' cV3) (fun bad x => uNormS bad x) cI (go_of Tryz.func38 (by kernel_rfl) (by kernel_rfl)) enor_fx
theorem euni_fx : FlowOk Tryz.prog 40 (lone' cV3) (fun bad x => uUnitS bad x) cV3 := flow_sx (tbl := [eDiv, eFai, eDon, eVno]) (dirty := fun _ => []) (n := 8) xmixA Tryz.func40 rfl (fun bad x Post => by
    refine Eq.trans (b := ?m) ?x (Eq.symm ?y)
    case y => unfold uUnitS; simp only [← vif_lt (K := PK cV3 Post)]; exact rfl
    case x => kernel_rfl)
def eUni : Ct Tryz.prog := flowCt Tryz.prog 40 (lone' cV3) (fun bad x => uUnitS bad x) cV3 (go_of Tryz.func40 (by kernel_rfl) (by kernel_rfl)) euni_fx
def eSig : Ct Tryz.prog := predCt Tryz.prog 36 (then' cS (lone' cI)) (fun x K => Two x.1 x.2 ∧ K (.int .i64 (sg (cnt x.1 x.2.toNat)))) (fun _ _ _ hK hs => ⟨hs.1, hK _ hs.2⟩) (go_of Tryz.func36 (by kernel_rfl) (by kernel_rfl))
 (fun x w _ K hs => Calls.mono (rsigned_any x.1 x.2 x.2.toNat w (by have := hs.1.1; omega) hs.1.2.2 (by have := hs.1.2.1; omega)) (by rintro e w' ⟨rfl, hb⟩; exact ⟨_, rfl, rfl, hs.2, hb⟩))
def eCnt : Ct Tryz.prog := predCt Tryz.prog 39 (then' cS (lone' cI)) (fun x K => Two x.1 x.2 ∧ K (.int .i64 (cnt x.1 x.2.toNat : Nat))) (fun _ _ _ hK hs => ⟨hs.1, hK _ hs.2⟩) (go_of Tryz.func39 (by kernel_rfl) (by kernel_rfl))
 (fun x w _ K hs => Calls.mono (rcount_any x.1 x.2 x.2.toNat w (by have := hs.1.1; omega) hs.1.2.2 (by have := hs.1.2.1; omega)) (by rintro e w' ⟨rfl, hb⟩; exact ⟨_, rfl, rfl, hs.2, hb⟩))
abbrev eTb : List (Ct Tryz.prog) := [yRit, eSig, eCnt, ePar, eVno, eUni]
abbrev kRd : Dc (Tup 5 × Bool) := two' (cT 5) cB
def zero5 : Tup 5 × Bool := ((0, 0, 0, 0, 0, ()), false)
def enO : Ov := fun id => match id with
 | 5 => some (sureBy Tryz.prog eTb (fun _ => []) 5 35 true)
 | _ => none
set_option maxRecDepth 100000 in
theorem en_ov (w : World) : OvOk Tryz.prog enO [] w [] [] (bodyOf Tryz.prog 18) := by
 refine ovOk_by (ns := [(5, opsOf Tryz.prog 18 5, false)]) (by kernel_rfl) ?_
 intro r hr
 rcases List.mem_cons.1 hr with rfl | hr
 ·intro R hR K Q bl vt m a w h r hK
  cases hR
  exact sureBy_sound xmixA h r hK
 ·cases hr
def enX (Post : Value → Prop) (b : Bool) : Prop := Value.bool b = .bool true ∧ PJ kRd Post zero5
def enN (k : Int) (s : ByteArray) (Post : Value → Prop) (n : Int) : Prop := vif (decide (k < 1)) (enX Post true) (vif (decide (k > 3)) (enX Post true) (enX Post (!decide ((s.size : Int) = n))))
set_option maxRecDepth 100000 in
theorem rsen_none (k : Int) (s : ByteArray) (h : formOk k s = false) (w : World) (hw : GW w) : Calls Tryz.prog 18 ((lone' cFra).enc (k, s)).toArray w fun e w' => e = .returned (kRd.enc zero5) ∧ Below w.heap.size w w' := by
 refine pure_atO (d := lone' cFra) (k := kRd) (x := (k, s)) (y := zero5) (tbl := eTb) (dirty := fun _ => []) (n := 8) (ov := enO) xmixA (by kernel_rfl) (by kernel_rfl) en_ov ?_ w hw
 refine Eq.mpr (β := vif (decide (k = 2)) (enN k s (fun v => v = kRd.enc zero5) 18) (enN k s (fun v => v = kRd.enc zero5) 12)) (by kernel_rfl) ?_
 have key : ∀ n : Int, (¬ k < 1 → ¬ k > 3 → (s.size : Int) ≠ n) → enN k s (fun v => v = kRd.enc zero5) n := by
  intro n hn
  unfold enN
  by_cases h1 : k < 1
  ·rw [decide_eq_true h1]; exact ⟨rfl, rfl⟩
  rw [decide_eq_false h1]
  by_cases h3 : k > 3
  ·rw [decide_eq_true h3]; exact ⟨rfl, rfl⟩
  rw [decide_eq_false h3]
  refine ⟨?_, rfl⟩
  rw [decide_eq_false (hn h1 h3)]
  rfl
 unfold formOk at h
 simp only [Bool.or_eq_false_iff, Bool.and_eq_false_iff, decide_eq_false_iff_not] at h
 by_cases h2 : k = 2
 ·rw [decide_eq_true h2]
  exact key 18 (fun _ _ => by omega)
 ·rw [decide_eq_false h2]
  exact key 12 (fun _ _ => by omega)
def eRat (s : ByteArray) (i : Int) (A C : Prop) : Prop := Two s i ∧ vif (decide (sg (cnt s i.toNat) > 30000)) A (vif (decide (sg (cnt s i.toNat) < -30000)) A C)
theorem eRat_of {s : ByteArray} {i : Int} {A C : Prop} (hp : Two s i) (h : if gyroIn (sg (cnt s i.toNat)) then C else A) : eRat s i A C := by
 refine ⟨hp, ?_⟩
 unfold gyroIn at h
 by_cases h1 : sg (cnt s i.toNat) > 30000
 ·rw [decide_eq_true h1]; rw [if_neg (by simp; omega)] at h; exact h
 ·rw [decide_eq_false h1]
  by_cases h2 : sg (cnt s i.toNat) < -30000
  ·rw [decide_eq_true h2]; rw [if_neg (by simp; omega)] at h; exact h
  ·rw [decide_eq_false h2]; rw [if_pos (by simp; omega)] at h; exact h
theorem readT_if (k : Int) (s : ByteArray) : readT (k, s) = if readOk k s then ((k, tickS s, (saidV k s 6).1, (saidV k s 6).2.1, (saidV k s 6).2.2, ()), true) else zero5 := by
 unfold readT readR
 dsimp only
 cases readOk k s <;> rfl
theorem readOk_of {k : Int} {s : ByteArray} (hf : formOk k s = true) : readOk k s = (cRight (tickS s) && saidOk k s 6) := by
 unfold readOk
 rw [hf, Bool.true_and]
theorem tick_bs {n : Nat} (f : Nat → UInt8) (hn : 6 ≤ n) : tckE f 6 = tickS (bsOf n f) := tckE_is hn 6 (by decide)
theorem said_of {k : Int} {s : ByteArray} {Post : Value → Prop} {C : Prop} (hf : formOk k s = true) (hP : PJ kRd Post (readT (k, s))) (h : PJ kRd Post (if saidOk k s 6 then ((k, tickS s, (saidV k s 6).1, (saidV k s 6).2.1, (saidV k s 6).2.2, ()), true) else zero5) → C) : vif (!cRight (tickS s)) (PJ kRd Post zero5) C := by
 rw [readT_if, readOk_of hf] at hP
 cases hc : cRight (tickS s)
 ·rw [hc] at hP; exact hP
 ·rw [hc, Bool.true_and] at hP; exact h hP
theorem bs_size (n : Nat) (f : Nat → UInt8) : (bsOf n f).size = n := by
 show ((List.range n).map f).length = n
 simp
theorem two_bs {n : Nat} {f : Nat → UInt8} {i : Int} (h0 : 0 ≤ i) (h1 : i < 100) (h : i.toNat + 1 < n) : Two (bsOf n f) i := ⟨h0, h1, by rw [bs_size]; exact h⟩
set_option maxRecDepth 100000 in
theorem rsen_1 (f : Nat → UInt8) (w : World) (hw : GW w) : Calls Tryz.prog 18 ((lone' cFra).enc (1, bsOf 12 f)).toArray w fun e w' => e = .returned (kRd.enc (readT (1, bsOf 12 f))) ∧ Below w.heap.size w w' := by
 refine pure_at (d := lone' cFra) (k := kRd) (x := (1, bsOf 12 f)) (y := readT (1, bsOf 12 f)) (tbl := eTb) (dirty := fun _ => []) (n := 8) xmixA Tryz.func18 rfl (fun Post hP => ?_) w hw
 refine Eq.mpr (β := vif (!cRight (tckE f 6)) (PJ kRd Post zero5) (eRat (bsOf 12 f) 6 (PJ kRd Post zero5) (eRat (bsOf 12 f) 8 (PJ kRd Post zero5) (eRat (bsOf 12 f) 10 (PJ kRd Post zero5) (PJ kRd Post ((1, tckE f 6, IntKind.i64.wrap (sg (cnt (bsOf 12 f) (6 : Int).toNat) * 33554432), IntKind.i64.wrap (sg (cnt (bsOf 12 f) (8 : Int).toNat) * 33554432), IntKind.i64.wrap (sg (cnt (bsOf 12 f) (10 : Int).toNat) * 33554432), ()), true)))))) (by kernel_rfl) ?_
 rw [tick_bs f (show 6 ≤ 12 by decide)]
 refine said_of rfl hP (fun hP => ?_)
 have t6 : Two (bsOf 12 f) 6 := two_bs (by decide) (by decide) (by decide)
 have t8 : Two (bsOf 12 f) 8 := two_bs (by decide) (by decide) (by decide)
 have t10 : Two (bsOf 12 f) 10 := two_bs (by decide) (by decide) (by decide)
 generalize bsOf 12 f = s at *
 have hP : PJ kRd Post (if gyroOk (sg (cnt s 6)) (sg (cnt s 8)) (sg (cnt s 10)) then ((1, tickS s, sg (cnt s 6) * 33554432, sg (cnt s 8) * 33554432, sg (cnt s 10) * 33554432, ()), true) else zero5) := hP
 have e : ∀ n : Int, gyroIn n = true → IntKind.i64.wrap (n * 33554432) = n * 33554432 := fun n h => by
  unfold gyroIn at h
  have := of_decide_eq_true h
  rw [IntKind.wrap_i64]
  omega
 unfold gyroOk at hP
 refine eRat_of t6 ?_
 show if gyroIn (sg (cnt s 6)) then _ else _
 cases g6 : gyroIn (sg (cnt s 6))
 ·rw [g6] at hP; exact hP
 refine eRat_of t8 ?_
 show if gyroIn (sg (cnt s 8)) then _ else _
 cases g8 : gyroIn (sg (cnt s 8))
 ·rw [g6, g8] at hP; exact hP
 refine eRat_of t10 ?_
 show if gyroIn (sg (cnt s 10)) then PJ kRd Post ((1, tickS s, IntKind.i64.wrap (sg (cnt s 6) * 33554432), IntKind.i64.wrap (sg (cnt s 8) * 33554432), IntKind.i64.wrap (sg (cnt s 10) * 33554432), ()), true) else _
 cases g10 : gyroIn (sg (cnt s 10))
 ·rw [g6, g8, g10] at hP; exact hP
 rw [g6, g8, g10] at hP
 rw [e _ g6, e _ g8, e _ g10]
 exact hP
set_option maxRecDepth 100000 in
theorem rsen_3 (f : Nat → UInt8) (w : World) (hw : GW w) : Calls Tryz.prog 18 ((lone' cFra).enc (3, bsOf 12 f)).toArray w fun e w' => e = .returned (kRd.enc (readT (3, bsOf 12 f))) ∧ Below w.heap.size w w' := by
 refine pure_at (d := lone' cFra) (k := kRd) (x := (3, bsOf 12 f)) (y := readT (3, bsOf 12 f)) (tbl := eTb) (dirty := fun _ => []) (n := 8) xmixA Tryz.func18 rfl (fun Post hP => ?_) w hw
 refine Eq.mpr (β := vif (!cRight (tckE f 6)) (PJ kRd Post zero5) (Two (bsOf 12 f) 6 ∧ Two (bsOf 12 f) 8 ∧ Two (bsOf 12 f) 10 ∧ vif (decide (magN (sg (cnt (bsOf 12 f) 6)) (sg (cnt (bsOf 12 f) 8)) (sg (cnt (bsOf 12 f) 10)) < 1099511627776)) (PJ kRd Post zero5) (vif (decide (magN (sg (cnt (bsOf 12 f) 6)) (sg (cnt (bsOf 12 f) 8)) (sg (cnt (bsOf 12 f) 10)) > 131941395333120)) (PJ kRd Post zero5) (PJ kRd Post ((3, tckE f 6, (magS (sg (cnt (bsOf 12 f) 6)) (sg (cnt (bsOf 12 f) 8)) (sg (cnt (bsOf 12 f) 10))).1.1, (magS (sg (cnt (bsOf 12 f) 6)) (sg (cnt (bsOf 12 f) 8)) (sg (cnt (bsOf 12 f) 10))).1.2.1, (magS (sg (cnt (bsOf 12 f) 6)) (sg (cnt (bsOf 12 f) 8)) (sg (cnt (bsOf 12 f) 10))).1.2.2, ()), true))))) (by kernel_rfl) ?_
 rw [tick_bs f (show 6 ≤ 12 by decide)]
 refine said_of rfl hP (fun hP => ⟨two_bs (by decide) (by decide) (by decide), two_bs (by decide) (by decide) (by decide), two_bs (by decide) (by decide) (by decide), ?_⟩)
 generalize bsOf 12 f = s at *
 have hP : PJ kRd Post (if magOk (sg (cnt s 6)) (sg (cnt s 8)) (sg (cnt s 10)) then ((3, tickS s, (magS (sg (cnt s 6)) (sg (cnt s 8)) (sg (cnt s 10))).1.1, (magS (sg (cnt s 6)) (sg (cnt s 8)) (sg (cnt s 10))).1.2.1, (magS (sg (cnt s 6)) (sg (cnt s 8)) (sg (cnt s 10))).1.2.2, ()), true) else zero5) := hP
 unfold magOk at hP
 generalize magN (sg (cnt s 6)) (sg (cnt s 8)) (sg (cnt s 10)) = N at *
 by_cases h1 : N < 1099511627776
 ·rw [decide_eq_true h1]; rw [decide_eq_false (show ¬ 1099511627776 ≤ N by omega)] at hP; exact hP
 rw [decide_eq_false h1]
 rw [decide_eq_true (show 1099511627776 ≤ N by omega)] at hP
 by_cases h2 : N > 131941395333120
 ·rw [decide_eq_true h2]; rw [decide_eq_false (show ¬ N ≤ 131941395333120 by omega)] at hP; exact hP
 ·rw [decide_eq_false h2]; rw [decide_eq_true (show N ≤ 131941395333120 by omega)] at hP; exact hP
def eDir (s : ByteArray) (i j : Int) (seen : Bool) (C : Bool → Prop) : Prop := Two s i ∧ Two s j ∧ vif seen (C true) (vif (decide (((cnt s i.toNat : Nat) : Int) ≥ 2000)) (C true) (C (decide (((cnt s j.toNat : Nat) : Int) ≥ 2000))))
theorem eDir_of {s : ByteArray} {i j : Int} {seen : Bool} {C : Bool → Prop} (hi : Two s i) (hj : Two s j) (h : C (seen || decide (((cnt s i.toNat : Nat) : Int) ≥ 2000) || decide (((cnt s j.toNat : Nat) : Int) ≥ 2000))) : eDir s i j seen C := by
 refine ⟨hi, hj, ?_⟩
 cases seen
 ·cases k : decide (((cnt s i.toNat : Nat) : Int) ≥ 2000)
  ·rw [k] at h
   exact h
  ·rw [k] at h
   exact h
 ·exact h
def eSun (s : ByteArray) : V3 := (IntKind.i64.wrap (IntKind.i64.wrap (((cnt s (6 : Int).toNat : Nat) : Int) - ((cnt s (8 : Int).toNat : Nat) : Int)) * 16777216), IntKind.i64.wrap (IntKind.i64.wrap (((cnt s (10 : Int).toNat : Nat) : Int) - ((cnt s (12 : Int).toNat : Nat) : Int)) * 16777216), IntKind.i64.wrap (IntKind.i64.wrap (((cnt s (14 : Int).toNat : Nat) : Int) - ((cnt s (16 : Int).toNat : Nat) : Int)) * 16777216))
def eLit (s : ByteArray) (t : Int) (Post : Value → Prop) (b : Bool) : Prop := vif (!b) (PJ kRd Post zero5) (vif (uUnitS false (eSun s)).2 (PJ kRd Post zero5) (PJ kRd Post ((2, t, (uUnitS false (eSun s)).1.1, (uUnitS false (eSun s)).1.2.1, (uUnitS false (eSun s)).1.2.2, ()), true)))
set_option maxRecDepth 100000 in
theorem rsen_2 (f : Nat → UInt8) (w : World) (hw : GW w) : Calls Tryz.prog 18 ((lone' cFra).enc (2, bsOf 18 f)).toArray w fun e w' => e = .returned (kRd.enc (readT (2, bsOf 18 f))) ∧ Below w.heap.size w w' := by
 refine pure_at (d := lone' cFra) (k := kRd) (x := (2, bsOf 18 f)) (y := readT (2, bsOf 18 f)) (tbl := eTb) (dirty := fun _ => []) (n := 8) xmixA Tryz.func18 rfl (fun Post hP => ?_) w hw
 refine Eq.mpr (β := vif (!cRight (tckE f 6)) (PJ kRd Post zero5) (eDir (bsOf 18 f) 6 8 false fun b => eDir (bsOf 18 f) 10 12 b fun b => eDir (bsOf 18 f) 14 16 b fun b => eLit (bsOf 18 f) (tckE f 6) Post b)) (by kernel_rfl) ?_
 rw [tick_bs f (show 6 ≤ 18 by decide)]
 refine said_of rfl hP (fun hP => ?_)
 have t : ∀ i : Int, 0 ≤ i → i ≤ 16 → Two (bsOf 18 f) i := fun i h0 h1 => two_bs h0 (by omega) (by omega)
 refine eDir_of (t _ (by decide) (by decide)) (t _ (by decide) (by decide)) (eDir_of (t _ (by decide) (by decide)) (t _ (by decide) (by decide)) (eDir_of (t _ (by decide) (by decide)) (t _ (by decide) (by decide)) ?_))
 generalize bsOf 18 f = s at *
 have hv : eSun s = sunD (cnt s 6 : Nat) (cnt s 8 : Nat) (cnt s 10 : Nat) (cnt s 12 : Nat) (cnt s 14 : Nat) (cnt s 16 : Nat) := by
  have e : ∀ a b : Nat, a < 65536 → b < 65536 → IntKind.i64.wrap (IntKind.i64.wrap ((a : Int) - (b : Int)) * 16777216) = ((a : Int) - b) * 16777216 := fun a b ha hb => by
   rw [IntKind.wrap_i64, IntKind.wrap_i64]
   omega
  unfold eSun sunD
  rw [e _ _ (cnt_lt _ _) (cnt_lt _ _), e _ _ (cnt_lt _ _) (cnt_lt _ _), e _ _ (cnt_lt _ _) (cnt_lt _ _)]
  rfl
 have hP : PJ kRd Post (if sunOk (cnt s 6 : Nat) (cnt s 8 : Nat) (cnt s 10 : Nat) (cnt s 12 : Nat) (cnt s 14 : Nat) (cnt s 16 : Nat) then ((2, tickS s, (vUnitS false (sunD (cnt s 6 : Nat) (cnt s 8 : Nat) (cnt s 10 : Nat) (cnt s 12 : Nat) (cnt s 14 : Nat) (cnt s 16 : Nat))).1.1, (vUnitS false (sunD (cnt s 6 : Nat) (cnt s 8 : Nat) (cnt s 10 : Nat) (cnt s 12 : Nat) (cnt s 14 : Nat) (cnt s 16 : Nat))).1.2.1, (vUnitS false (sunD (cnt s 6 : Nat) (cnt s 8 : Nat) (cnt s 10 : Nat) (cnt s 12 : Nat) (cnt s 14 : Nat) (cnt s 16 : Nat))).1.2.2, ()), true) else zero5) := hP
 unfold sunOk sunS at hP
 show eLit s (tickS s) Post (lit (cnt s 6 : Nat) (cnt s 8 : Nat) (cnt s 10 : Nat) (cnt s 12 : Nat) (cnt s 14 : Nat) (cnt s 16 : Nat))
 unfold eLit
 rw [hv, uUnit_eq]
 generalize sunD (cnt s 6 : Nat) (cnt s 8 : Nat) (cnt s 10 : Nat) (cnt s 12 : Nat) (cnt s 14 : Nat) (cnt s 16 : Nat) = D at hP ⊢
 cases hl : lit (cnt s 6 : Nat) (cnt s 8 : Nat) (cnt s 10 : Nat) (cnt s 12 : Nat) (cnt s 14 : Nat) (cnt s 16 : Nat)
 ·rw [hl] at hP; exact hP
 ·rw [hl] at hP
  cases hu : (vUnitS false D).2
  ·rw [hu] at hP; exact hP
  ·rw [hu] at hP; exact hP
theorem rsen_any (k : Int) (s : ByteArray) (w : World) (hw : GW w) : Calls Tryz.prog 18 ((lone' cFra).enc (k, s)).toArray w fun e w' => e = .returned (kRd.enc (readT (k, s))) ∧ Below w.heap.size w w' := by
 cases hf : formOk k s
 ·have hr : readT (k, s) = zero5 := by
   have h0 : readOk k s = false := by unfold readOk; rw [hf]; rfl
   rw [readT_if, h0]
   rfl
  rw [hr]
  exact rsen_none k s hf w hw
 ·have hb := bsOf_is s
  unfold formOk at hf
  simp only [Bool.or_eq_true, Bool.and_eq_true, decide_eq_true_eq] at hf
  generalize (fun i => s.data.toList.getD i 0) = f at hb
  rcases hf with (⟨rfl, hs⟩ | ⟨rfl, hs⟩) | ⟨rfl, hs⟩
  ·rw [hs] at hb; rw [hb]; exact rsen_1 f w hw
  ·rw [hs] at hb; rw [hb]; exact rsen_3 f w hw
  ·rw [hs] at hb; rw [hb]; exact rsen_2 f w hw
end Go.Proofs.YtbophanlmkbfeaaGreatDoor
namespace Go.Proofs.YtbophanlmkbfeaaGreatDoor
open Go.RowKit
def selfOk (P : Program) : Nat → TypeId → Value → Bool
 | 0, _, _ => false
 | d + 1, t, v => match P.underlying t, v with
  | some .bool, .bool _ => true
  | some (.int _), .int _ _ => true
  | some .string, .string _ => true
  | some (.struct fs), .agg xs => !P.stoodInHeld t && fs.toList.all fun f => match qrun P (part f.type xs f.offset) with
   | some u => selfOk P d f.type u
   | none => false
  | some (.array n e), .agg xs => (P.info? e).isSome && (List.range n).all fun i => match qrun P (part e xs (i * P.cellsOf e)) with
   | some u => selfOk P d e u
   | none => false
  | _, _ => false
section
variable {P : Program}
def SelfAt (P : Program) (d : Nat) : Prop := ∀ t v, selfOk P d t v = true → ∀ (k : Nat) (w : World), (Op.equalIn (k + d) t v v).run P w = .ok true w
theorem fields_self {d k : Nat} (ih : SelfAt P d) (xs : Array Value) (w : World) : ∀ fs : List Field, (fs.all fun f => match qrun P (part f.type xs f.offset) with
      | some u => selfOk P d f.type u
      | none => false) = true → (Op.eqFields (k + d) xs xs fs).run P w = .ok true w
 | [], _ => by simp [Op.eqFields]
 | f :: fs, h => by
  rw [List.all_cons, Bool.and_eq_true] at h
  have ih2 := fields_self (k := k) ih xs w fs h.2
  have h1 := h.1
  unfold Op.eqFields
  split
  ·split at h1
   ·rename_i u hu
    have p := qrun_run _ hu w
    have e := ih _ _ h1 k w
    simp only [Sem.run_bind, p, Result.andThen_ok, e, Bool.not_true, Bool.false_eq_true, if_false, ih2]
   ·cases h1
  ·exact ih2
theorem items_self {d k : Nat} (ih : SelfAt P d) (e : TypeId) (xs : Array Value) (w : World) : ∀ is : List Nat, (is.all fun i => match qrun P (part e xs (i * P.cellsOf e)) with
      | some u => selfOk P d e u
      | none => false) = true → (Op.eqItems (k + d) e (P.cellsOf e) xs xs is).run P w = .ok true w
 | [], _ => by simp [Op.eqItems]
 | i :: is, h => by
  rw [List.all_cons, Bool.and_eq_true] at h
  have ih2 := items_self (k := k) ih e xs w is h.2
  have h1 := h.1
  unfold Op.eqItems
  split at h1
  ·rename_i u hu
   have p := qrun_run _ hu w
   have e := ih _ _ h1 k w
   simp only [Sem.run_bind, p, Result.andThen_ok, e, Bool.not_true, Bool.false_eq_true, if_false, ih2]
  ·cases h1
theorem self_at : ∀ d, SelfAt P d
 | 0 => fun t v h => by cases h
 | d + 1 => fun t v h k w => by
  have ih := self_at d
  unfold selfOk at h
  split at h
  ·rename_i hu
   rw [← Nat.add_assoc, run_equalIn_bool' w _ _ _ _ hu]
   simp
  ·rename_i hu
   rw [← Nat.add_assoc, run_equalIn_int w _ _ _ _ _ _ hu]
   simp
  ·rename_i hu
   rw [← Nat.add_assoc, run_equalIn_string w _ _ _ _ hu]
   simp
  ·rename_i fs xs hu
   rw [Bool.and_eq_true] at h
   have hf : P.fieldsOf t = fs := by unfold Program.fieldsOf; rw [hu]
   rw [← Nat.add_assoc, run_equalIn_struct w _ _ _ _ (by rw [hf]; exact hu) (by simpa using h.1), hf]
   exact fields_self ih xs w _ h.2
  ·rename_i n e xs hu
   rw [Bool.and_eq_true] at h
   obtain ⟨i, hi⟩ := Option.isSome_iff_exists.1 h.1
   rw [← Nat.add_assoc, run_equalIn_array w _ _ _ hu hi]
   exact items_self ih e xs w _ h.2
  ·cases h
end
end Go.Proofs.YtbophanlmkbfeaaGreatDoor
namespace Go.Proofs.YtbophanlmkbfeaaGreatDoor
open Go.RowKit
structure Recs (w0 : World) (B : Nat) (ao : Option Addr) (n cap : Nat) (L : Nat → Int × ByteArray) (sl : Value) : Prop where
 rv : ∀ bl : Bl, bl[0]? = some (some B) → RV bl sl (.slice ao n cap)
 ok : ptrOk 1 sl = true
 lies : B < w0.heap.size
 idx : ∀ {i}, i < n → sl ≠ .nilIface
 at_ : ∀ i, i < n → ∃ o, ao = some ⟨B, o, none⟩ ∧ w0.cell? ⟨B, o + i * 2, none⟩ = some (.int .i64 (L i).1) ∧ w0.cell? ⟨B, o + i * 2 + 1, none⟩ = some (.string (L i).2)
theorem cell_old {w0 w : World} {B : Nat} (h : w.heap[B]? = w0.heap[B]?) (o : Nat) : w.cell? ⟨B, o, none⟩ = w0.cell? ⟨B, o, none⟩ := by
 unfold World.cell?
 rw [h]
theorem load_two {P : Program} {t : TypeId} {B o : Nat} {w : World} {x y : Value} (ha : qrun P (isAgg t) = some true) (hz : qrun P (sizeOf t) = some 2) (h0 : w.cell? ⟨B, o, none⟩ = some x) (h1 : w.cell? ⟨B, o + 1, none⟩ = some y) : (loadVar t ⟨B, o, none⟩).run P w = .ok (.agg #[x, y]) w := by
 have r1 := qrun_run _ ha w
 have r2 := qrun_run _ hz w
 unfold loadVar
 simp [Sem.run_bind, r1, r2, loadCells, loadCellsFrom, load, Sem.run, add_is, h0, h1]
def eSl (sP d0 d1 d2 d3 N : Nat) (ao : Option Addr) (n cap : Nat) (sl : Value) (K : List Value → Xm → Prop) (vt : List Value) (m : Xm) : Prop :=
 vt.getD sP undef = .pointer (some ⟨1, 0, none⟩) ∧ (∃ x, m[1]? = some [x, .slice ao n cap]) ∧ vt.length = N ∧ K ((((vt.set d0 .nilIface).set d1 sl).set d2 (.int .i64 (n : Nat))).set d3 (.int .i64 0)) m
theorem eSl_sound {bs : List Nat} {w0 : World} {ds : List Deferred} {bl0 : Bl} {K : List Value → Xm → Prop} {Q : Exit → Act → World → Prop} {bl : Bl} {vt : List Value} {m : Xm} {a : Act} {w : World} {B : Nat} {ao : Option Addr} {n cap : Nat} {L : Nat → Int × ByteArray} {sl : Value} {ops : Array Oper} {id : Nat} {o0 o1 o2 o3 : Oper} {tP tS tE : TypeId} {sP d0 d1 d2 d3 N : Nat} (n0 : d0 < N) (n1 : d1 < N) (n2 : d2 < N) (n3 : d3 < N) (hb0 : bl0[0]? = some (some B)) (hr : Recs w0 B ao n cap L sl) (hfl : fieldV Tryz.prog tP 1 = some 1) (hag : qrun Tryz.prog (isAgg tS) = some false) (hu : Tryz.prog.underlying tS = some (.slice tE)) (ho : ops = #[o0, o1, o2, o3])
    (h0 : o0.dst = some d0 ∧ o0.op = .fieldAddr tP (.tmp sP) 1 ∧ o0.guard = none) (h1 : o1.dst = some d1 ∧ o1.op = .load tS (.tmp d0) ∧ o1.guard = none) (h2 : o2.dst = some d2 ∧ o2.op = .call { callee := .builtin .len, args := #[.tmp d1], argTypes := #[tS] } ∧ o2.guard = none) (h3 : o3.dst = some d3 ∧ o3.op = .move (.const (.int .i64 0)) ∧ o3.guard = none)
    (h : eSl sP d0 d1 d2 d3 N ao n cap sl K vt m) (r : Rl bs w0 ds bl0 bl vt m a w) (hK : ∀ bl vt m a w, K vt m → Rl bs w0 ds bl0 bl vt m a w → Q .normal a w) : (Code.region id ops false).wp Tryz.prog Q a w := by
 subst ho
 have hlen := r.F.len
 obtain ⟨hp, ⟨x0, hm⟩, hlt, hk⟩ := h
 rw [hlt] at hlen
 have hp' := r.F.rv sP
 rw [hp] at hp'
 obtain ⟨C, hC, EsP⟩ := hp'
 have EsP : a.eval (.tmp sP) = .pointer (some ⟨C, 0, none⟩) := EsP
 obtain ⟨row, e0, A0⟩ := r.R.arr 1 C hC
 have e0 : m[1]? = some row := e0
 rw [hm] at e0
 cases e0
 have hld : loadV Tryz.prog tS [x0, .slice ao n cap] 1 = some (.slice ao n cap) := by unfold loadV; rw [hag]; rfl
 have rld := loadV_run hld A0
 have rfl1 := fieldV_run hfl C 0 w
 have hrv := hr.rv bl (r.le 0 B hb0)
 have r0 := run_under hu w
 have F := r.F
 have D := r.defers
 refine wp_region ?_
 refine ops_valS (v := .nilIface) (v' := (.pointer (some ⟨C, 1, none⟩))) (w' := w) rfl h0.1 (unguarded h0.2.2) (by simp [execOp, h0.2.1, EsP, rfl1]) F D hlen n0 (rfl) fun a F D hlen Ed0 X => ?_
 refine ops_valS (v := sl) (v' := (.slice ao n cap)) (w' := w) rfl h1.1 (unguarded h1.2.2) (by simp [execOp, h1.2.1, Ed0, Instr.loadAt, Instr.sureAddr, rld]) F D hlen n1 (hrv) fun a F D hlen Ed1 X => ?_
 refine ops_valS (v := .int .i64 (n : Nat)) (v' := (.int .i64 (n : Nat))) (w' := w) rfl h2.1 (unguarded h2.2.2) (by simp [execOp, h2.2.1, resolve, invoke, builtin, Ed1, Builtin.len_, r0, goInt]) F D hlen n2 (rfl) fun a F D hlen Ed2 X => ?_
 refine ops_valS (v := .int .i64 0) (v' := (.int .i64 0)) (w' := w) rfl h3.1 (unguarded h3.2.2) (by simp [execOp, h3.2.1, Act.eval]) F D hlen n3 (rfl) fun a F D hlen Ed3 X => ?_
 exact hK _ _ _ _ _ hk ⟨F, r.R, r.le, r.len, D⟩
def eRec (sS sI d0 d1 d2 kN N : Nat) (n : Nat) (L : Nat → Int × ByteArray) (sl : Value) (K : List Value → Xm → Prop) (vt : List Value) (m : Xm) : Prop :=
 match vt.getD sI undef with
 | .int .i64 i => (0 ≤ i ∧ i.toNat < n) ∧ vt.getD sS undef = sl ∧ m.length = kN ∧ vt.length = N ∧ K (((vt.set d0 .nilIface).set d1 .nilIface).set d2 (.pointer (some ⟨kN, 0, none⟩))) (m ++ [[.int .i64 (L i.toNat).1, .string (L i.toNat).2]])
 | _ => False
theorem eRec_sound {bs : List Nat} {w0 : World} {ds : List Deferred} {bl0 : Bl} {K : List Value → Xm → Prop} {Q : Exit → Act → World → Prop} {bl : Bl} {vt : List Value} {m : Xm} {a : Act} {w : World} {B : Nat} {ao : Option Addr} {n cap : Nat} {L : Nat → Int × ByteArray} {sl : Value} {ops : Array Oper} {id : Nat} {o0 o1 o2 o3 : Oper} {tS tR : TypeId} {sS sI d0 d1 d2 kN N : Nat} (n0 : d0 < N) (n1 : d1 < N) (n2 : d2 < N) (n3 : d2 ≠ d1) (hb0 : bl0[0]? = some (some B)) (hr : Recs w0 B ao n cap L sl) (hu : Tryz.prog.underlying tS = some (.slice tR)) (hz : qrun Tryz.prog (sizeOf tR) = some 2) (ha : qrun Tryz.prog (isAgg tR) = some true) {z : Value} (hzv : qrun Tryz.prog (zeroValue tR) = some z) (hzl : z.cells.toList.length = 2) (ho : ops = #[o0, o1, o2, o3])
    (h0 : o0.dst = some d0 ∧ o0.op = .indexAddr tS (.tmp sS) (.tmp sI) ∧ o0.guard = none) (h1 : o1.dst = some d1 ∧ o1.op = .load tR (.tmp d0) ∧ o1.guard = none) (h2 : o2.dst = some d2 ∧ o2.op = .alloc tR ∧ o2.guard = none) (h3 : o3.dst = none ∧ o3.op = .store tR (.tmp d2) (.tmp d1) ∧ o3.guard = none)
    (h : eRec sS sI d0 d1 d2 kN N n L sl K vt m) (r : Rl bs w0 ds bl0 bl vt m a w) (hK : ∀ bl vt m a w, K vt m → Rl bs w0 ds bl0 bl vt m a w → Q .normal a w) (hbs : B ∉ bs := by simp) : (Code.region id ops false).wp Tryz.prog Q a w := by
 subst ho
 have hlen := r.F.len
 unfold eRec at h
 split at h
 case h_2 => exact h.elim
 rename_i i hi
 obtain ⟨⟨hi0, hil⟩, hsl, hm5, hlt, hk⟩ := h
 rw [hlt] at hlen
 have hiv := r.F.rv sI
 rw [hi] at hiv
 have EsI : a.eval (.tmp sI) = .int .i64 i := hiv
 have hsv := r.F.rv sS
 rw [hsl] at hsv
 obtain ⟨o, rfl, c0, c1⟩ := hr.at_ i.toNat hil
 have EsS : a.eval (.tmp sS) = .slice (some ⟨B, o, none⟩) n cap := by
  have h1 := hr.rv bl (r.le 0 B hb0)
  match sl, h1, hsv with
  | .slice (some b) _ _, ⟨B1, hB1, e1⟩, ⟨B2, hB2, e2⟩ =>
   rw [hB1] at hB2
   cases hB2
   exact e2.trans e1.symm
  | .slice none _ _, h1, _ => cases h1
  | .nilIface, h1, _ => exact absurd (hr.idx hil) (by simp)
  | .pointer (some _), ⟨_, _, e1⟩, _ => cases e1
  | .pointer none, h1, _ => cases h1
  | .bool _, h1, _ => cases h1
  | .int _ _, h1, _ => cases h1
  | .float _ _, h1, _ => cases h1
  | .complex _ _ _, h1, _ => cases h1
  | .string _, h1, _ => cases h1
  | .map _, h1, _ => cases h1
  | .chan _, h1, _ => cases h1
  | .func _ _ _, h1, _ => cases h1
  | .nilFunc, h1, _ => cases h1
  | .iface _ _, h1, _ => cases h1
  | .agg _, h1, _ => cases h1
  | .tuple _, h1, _ => cases h1
 have hB : w.heap[B]? = w0.heap[B]? := r.R.block B hr.lies hbs
 rw [← cell_old hB] at c0 c1
 have rld := load_two (P := Tryz.prog) ha hz c0 c1
 have F := r.F
 have D := r.defers
 refine wp_region ?_
 have hil' : i < (n : Int) := by omega
 have r0 := run_under hu w
 have r1 := qrun_run _ hz w
 refine ops_valS (v := .nilIface) (v' := (.pointer (some ⟨B, o + i.toNat * 2, none⟩))) (w' := w) rfl h0.1 (unguarded h0.2.2) (by simp [execOp, h0.2.1, EsS, EsI, Instr.indexAt, asIntOf, r0, r1, hi0, hil', add_is, Sem.run_bind]) F D hlen n0 (rfl) fun a F D hlen Ed0 X => ?_
 refine ops_valS (v := .nilIface) (v' := (.agg #[.int .i64 (L i.toNat).1, .string (L i.toNat).2])) (w' := w) rfl h1.1 (unguarded h1.2.2) (by simp [execOp, h1.2.1, Ed0, Instr.loadAt, Instr.sureAddr, rld]) F D hlen n1 (rfl) fun a F D hlen Ed1 X => ?_
 have hw3 : (execOp a.eval o2).run Tryz.prog w = .ok (.value (.pointer (some ⟨w.heap.size, 0, none⟩))) (w.alloc (.cells z.cells.toList.toArray tR)) := by
  have r := qrun_run _ hzv w
  simp [execOp, h2.2.1, Instr.alloc, newVar, newRow, newObj, r, Sem.run]
 have hbl : bl.length = kN := r.len.trans hm5
 have WW := r.R.wide 1 [[.int .i64 (L i.toNat).1, .string (L i.toNat).2]]
 obtain ⟨N, hle⟩ := WW.new (k := kN) (by rw [List.getElem?_append_right (by omega), hbl, Nat.sub_self]; rfl) (by rw [List.length_append, hm5]; exact Nat.lt_succ_self kN) z.cells.toList tR
 have hg5 : ((bl ++ List.replicate 1 none).set kN (some w.heap.size))[kN]? = some (some w.heap.size) := List.getElem?_set_self (by rw [List.length_append, hbl]; exact Nat.lt_succ_self kN)
 have hm6 : ((m ++ [[Value.int .i64 (L i.toNat).1, Value.string (L i.toNat).2]]).set kN z.cells.toList)[kN]? = some z.cells.toList := List.getElem?_set_self (by rw [List.length_append, hm5]; exact Nat.lt_succ_self kN)
 obtain ⟨row, e5, A5⟩ := N.arr kN _ hg5
 rw [hm6] at e5
 cases e5
 have hst : storeV Tryz.prog tR z.cells.toList 0 (.agg #[.int .i64 (L i.toNat).1, .string (L i.toNat).2]) = some (setAt z.cells.toList 0 [.int .i64 (L i.toNat).1, .string (L i.toNat).2]) := by
  unfold storeV
  rw [hz]
  dsimp only
  rw [if_pos (by rw [hzl]; rfl)]
  rfl
 obtain ⟨r3, _, hl3⟩ := storeV_run hst A5
 have hL : Le bl ((bl ++ List.replicate 1 none).set kN (some w.heap.size)) := (Le.wide bl 1).trans hle
 have F := F.mono hL
 refine ops_valS (v := .pointer (some ⟨kN, 0, none⟩)) rfl h2.1 (unguarded h2.2.2) hw3 F D hlen n2 (RV.at hg5 0) fun a F D hlen Ed2 X => ?_
 have Ed1 := (X d1 n3).trans Ed1
 refine ops_skip (o := o3) (w' := wset (w.alloc (.cells z.cells.toList.toArray tR)) w.heap.size 0 [.int .i64 (L i.toNat).1, .string (L i.toNat).2]) rfl h3.2.2 ?_ ?_
 ·simp [execOp, h3.2.1, Ed2, Ed1, Instr.storeAt, Instr.sureAddr, r3]
  rfl
 rw [h3.1]
 have hrow5 : setAt z.cells.toList 0 [.int .i64 (L i.toNat).1, .string (L i.toNat).2] = [.int .i64 (L i.toNat).1, .string (L i.toNat).2] := by
  match z.cells.toList, hzl with
  | [_, _], _ => rfl
 have R5 := N.store hg5 hm6 0 [.int .i64 (L i.toNat).1, .string (L i.toNat).2] hl3
 rw [hrow5] at R5
 have hmm : ((m ++ [[Value.int .i64 (L i.toNat).1, Value.string (L i.toNat).2]]).set kN z.cells.toList).set kN [Value.int .i64 (L i.toNat).1, Value.string (L i.toNat).2] = m ++ [[Value.int .i64 (L i.toNat).1, Value.string (L i.toNat).2]] := by
  rw [List.set_set, List.set_append_right _ _ (by omega), hm5, Nat.sub_self]
  rfl
 rw [hmm] at R5
 exact hK _ _ _ _ _ hk ⟨F, R5, r.le.trans hL, by rw [List.length_set, List.length_append, List.length_append, hbl, hm5]; rfl, by rw [put_defers]; exact D⟩
def eN (K : List Value → Xm → Prop) (vt : List Value) (m : Xm) : Prop :=
 vt.getD 9 undef = .pointer (some ⟨4, 0, none⟩) ∧ vt.getD 5 undef = .pointer (some ⟨2, 0, none⟩) ∧ vt.length = 60 ∧ (∃ c : Cra, m[4]? = some (dCra.enc c) ∧ m[2]? = some (dCra.enc c)) ∧ K (((vt.set 38 .nilIface).set 39 .nilIface).set 40 (.bool false)) m
theorem craft_self (c : Cra) (w : World) : (Op.equalIn 10000 42 (.agg (dCra.enc c).toArray) (.agg (dCra.enc c).toArray)).run Tryz.prog w = .ok true w := self_at 6 42 _ (by kernel_rfl) 9994 w
theorem craft_load (c : Cra) : loadV Tryz.prog 42 (dCra.enc c) 0 = some (.agg (dCra.enc c).toArray) := by kernel_rfl
theorem craft_plain : Tryz.prog.eqGuardType Tryz.prog.depth 42 = false := by kernel_rfl
theorem eN_sound {w0 : World} {ds : List Deferred} {bl0 : Bl} {K : List Value → Xm → Prop} {Q : Exit → Act → World → Prop} {bl : Bl} {vt : List Value} {m : Xm} {a : Act} {w : World} {ops : Array Oper} {id : Nat} {o0 o1 o2 : Oper} {tC : TypeId} (hC : tC = 42) (ho : ops = #[o0, o1, o2])
    (h0 : o0.dst = some 38 ∧ o0.op = .load tC (.tmp 9) ∧ o0.guard = none) (h1 : o1.dst = some 39 ∧ o1.op = .load tC (.tmp 5) ∧ o1.guard = none) (h2 : o2.dst = some 40 ∧ o2.op = .binOp .neq tC (.tmp 38) (.tmp 39) tC ∧ o2.guard = none)
    (h : eN K vt m) (r : Rl [] w0 ds bl0 bl vt m a w) (hK : ∀ bl vt m a w, K vt m → Rl [] w0 ds bl0 bl vt m a w → Q .normal a w) : (Code.region id ops false).wp Tryz.prog Q a w := by
 subst ho hC
 have hlen := r.F.len
 obtain ⟨h9, h5, hlt, ⟨c, hm4, hm2⟩, hk⟩ := h
 rw [hlt] at hlen
 have hp9 := r.F.rv 9
 rw [h9] at hp9
 obtain ⟨B9, hB9, E9⟩ := hp9
 have E9 : a.eval (.tmp 9) = .pointer (some ⟨B9, 0, none⟩) := E9
 have hp5 := r.F.rv 5
 rw [h5] at hp5
 obtain ⟨B5, hB5, E5⟩ := hp5
 have E5 : a.eval (.tmp 5) = .pointer (some ⟨B5, 0, none⟩) := E5
 obtain ⟨row, e4, A4⟩ := r.R.arr 4 B9 hB9
 have e4 : m[4]? = some row := e4
 rw [hm4] at e4
 cases e4
 obtain ⟨row, e2, A2⟩ := r.R.arr 2 B5 hB5
 have e2 : m[2]? = some row := e2
 rw [hm2] at e2
 cases e2
 have rl9 := loadV_run (craft_load c) A4
 have rl5 := loadV_run (craft_load c) A2
 have req := craft_self c w
 have hpl := craft_plain
 generalize (dCra.enc c).toArray = C at rl9 rl5 req
 have F := r.F
 have D := r.defers
 refine wp_region ?_
 refine ops_valS (v := .nilIface) (v' := (.agg C)) (w' := w) rfl h0.1 (unguarded h0.2.2) (by simp [execOp, h0.2.1, E9, Instr.loadAt, Instr.sureAddr, rl9]) F D hlen (by decide) (rfl) fun a F D hlen E38 X => ?_
 have E5 := (X 5 (by decide)).trans E5
 refine ops_valS (v := .nilIface) (v' := (.agg C)) (w' := w) rfl h1.1 (unguarded h1.2.2) (by simp [execOp, h1.2.1, E5, Instr.loadAt, Instr.sureAddr, rl5]) F D hlen (by decide) (rfl) fun a F D hlen E39 X => ?_
 have E38 := (X 38 (by decide)).trans E38
 refine ops_valS (v := .bool false) (v' := (.bool false)) (w' := w) rfl h2.1 (unguarded h2.2.2) (by simp [execOp, h2.2.1, E38, E39, eqGuard, hpl, run_neq_struct, req]) F D hlen (by decide) (rfl) fun a F D hlen E40 X => ?_
 exact hK _ _ _ _ _ hk ⟨F, r.R, r.le, r.len, D⟩
def eH (f : Nat) (Held : Cra → Cra → Tel → ByteArray → Prop) (K : List Value → Xm → Prop) (vt : List Value) (m : Xm) : Prop :=
 vt.getD 12 undef = .bool true ∧ vt.getD 1 undef = .func (.func f) #[] #[] ∧ vt.getD 5 undef = .pointer (some ⟨2, 0, none⟩) ∧ vt.getD 9 undef = .pointer (some ⟨4, 0, none⟩) ∧ vt.getD 11 undef = .pointer (some ⟨5, 0, none⟩) ∧ vt.getD 8 undef = .pointer (some ⟨3, 0, none⟩) ∧ vt.length = 60 ∧
 ∃ (c d : Cra) (T : Tel) (x : Value) (b : ByteArray), (m[2]? = some (dCra.enc c) ∧ m[4]? = some (dCra.enc d) ∧ m[5]? = some (tEnc 13 T) ∧ m[3]? = some [x, .string b]) ∧ Held c d T b ∧
 K ((((((((((((vt.set 46 (.bool true)).set 47 (.bool false)).set 48 (.bool false)).set 49 .nilIface).set 50 .nilIface).set 51 .nilIface).set 52 .nilIface).set 53 .nilIface).set 54 .nilIface).set 55 (.bool true)).set 56 (.bool false)).set 57 (.bool false)) m
theorem tell_load (T : Tel) : loadV Tryz.prog 55 (tEnc 13 T) 0 = some (.agg (tEnc 13 T).toArray) := by kernel_rfl
def HeldOk (f : Nat) (Held : Cra → Cra → Tel → ByteArray → Prop) : Prop := ∀ c d T b, Held c d T b → ∀ w, GW w → Calls Tryz.prog f #[.agg (dCra.enc c).toArray, .agg (dCra.enc d).toArray, .agg (tEnc 13 T).toArray, .string b] w fun e w' => e = .returned (.bool true) ∧ Below w.heap.size w w'
set_option maxHeartbeats 1000000 in
theorem eH_sound {w0 : World} {ds : List Deferred} {bl0 : Bl} {K : List Value → Xm → Prop} {Q : Exit → Act → World → Prop} {bl : Bl} {vt : List Value} {m : Xm} {a : Act} {w : World} {f : Nat} {Held : Cra → Cra → Tel → ByteArray → Prop} {ops : Array Oper} {id : Nat} {o0 o1 o2 o3 o4 o5 o6 o7 o8 o9 o10 o11 : Oper} {tC tT tR tS tB : TypeId} (hC : tC = 42) (hT : tT = 55) (hfl : fieldV Tryz.prog tR 1 = some 1) (hag : qrun Tryz.prog (isAgg tS) = some false) (go : ∀ (args : Array Value) (w : World), (callFunc f args).run Tryz.prog w = .ok (.enter f args) w) (hc : HeldOk f Held) (ho : ops = #[o0, o1, o2, o3, o4, o5, o6, o7, o8, o9, o10, o11])
    (h0 : o0.dst = some 46 ∧ o0.op = .move (.tmp 12) ∧ o0.guard = none) (h1 : o1.dst = some 47 ∧ o1.op = .unOp .not tB (.tmp 46) ∧ o1.guard = none) (h2 : o2.dst = some 48 ∧ o2.op = .move (.tmp 47) ∧ o2.guard = none) (h3 : o3.dst = some 49 ∧ o3.op = .move (.tmp 1) ∧ o3.guard = some (2, false)) (h4 : o4.dst = some 50 ∧ o4.op = .load tC (.tmp 5) ∧ o4.guard = some (2, false)) (h5 : o5.dst = some 51 ∧ o5.op = .load tC (.tmp 9) ∧ o5.guard = some (2, false)) (h6 : o6.dst = some 52 ∧ o6.op = .load tT (.tmp 11) ∧ o6.guard = some (2, false)) (h7 : o7.dst = some 53 ∧ o7.op = .fieldAddr tR (.tmp 8) 1 ∧ o7.guard = some (2, false)) (h8 : o8.dst = some 54 ∧ o8.op = .load tS (.tmp 53) ∧ o8.guard = some (2, false)) (h9 : o9.dst = some 55 ∧ o9.op = .call { callee := .value (.tmp 49), args := #[.tmp 50, .tmp 51, .tmp 52, .tmp 54], argTypes := #[tC, tC, tT, tS] } ∧ o9.guard = some (2, false)) (h10 : o10.dst = some 56 ∧ o10.op = .unOp .not tB (.tmp 55) ∧ o10.guard = some (2, false)) (h11 : o11.dst = some 57 ∧ o11.op = .pick (.tmp 48) (.const (.bool true)) (.tmp 56) ∧ o11.guard = none)
    (h : eH f Held K vt m) (r : Rl [] w0 ds bl0 bl vt m a w) (hK : ∀ bl vt m a w, K vt m → Rl [] w0 ds bl0 bl vt m a w → Q .normal a w) : (Code.region id ops false).wp Tryz.prog Q a w := by
 subst ho hC hT
 have hlen := r.F.len
 obtain ⟨q12, q1, q5, q9, q11, q8, hlt, c, d, T, x, b, ⟨hm2, hm4, hm5, hm3⟩, hH, hk⟩ := h
 rw [hlt] at hlen
 have E12 : a.eval (.tmp 12) = .bool true := by
  have := r.F.rv 12
  rw [q12] at this
  exact this
 have E1 : a.eval (.tmp 1) = .func (.func f) #[] #[] := by
  have := r.F.rv 1
  rw [q1] at this
  exact this
 have hp5 := r.F.rv 5
 rw [q5] at hp5
 obtain ⟨B5, hB5, E5⟩ := hp5
 have E5 : a.eval (.tmp 5) = .pointer (some ⟨B5, 0, none⟩) := E5
 obtain ⟨row5, e5, A5⟩ := r.R.arr 2 B5 hB5
 have e5 : m[2]? = some row5 := e5
 rw [hm2] at e5
 cases e5
 have hp9 := r.F.rv 9
 rw [q9] at hp9
 obtain ⟨B9, hB9, E9⟩ := hp9
 have E9 : a.eval (.tmp 9) = .pointer (some ⟨B9, 0, none⟩) := E9
 obtain ⟨row9, e9, A9⟩ := r.R.arr 4 B9 hB9
 have e9 : m[4]? = some row9 := e9
 rw [hm4] at e9
 cases e9
 have hp11 := r.F.rv 11
 rw [q11] at hp11
 obtain ⟨B11, hB11, E11⟩ := hp11
 have E11 : a.eval (.tmp 11) = .pointer (some ⟨B11, 0, none⟩) := E11
 obtain ⟨row11, e11, A11⟩ := r.R.arr 5 B11 hB11
 have e11 : m[5]? = some row11 := e11
 rw [hm5] at e11
 cases e11
 have hp8 := r.F.rv 8
 rw [q8] at hp8
 obtain ⟨B8, hB8, E8⟩ := hp8
 have E8 : a.eval (.tmp 8) = .pointer (some ⟨B8, 0, none⟩) := E8
 obtain ⟨row8, e8, A8⟩ := r.R.arr 3 B8 hB8
 have e8 : m[3]? = some row8 := e8
 rw [hm3] at e8
 cases e8
 have rl5 := loadV_run (craft_load c) A5
 have rl9 := loadV_run (craft_load d) A9
 have rl11 := loadV_run (tell_load T) A11
 have hld : loadV Tryz.prog tS [x, .string b] 1 = some (.string b) := by unfold loadV; rw [hag]; rfl
 have rl8 := loadV_run hld A8
 have rfl1 := fieldV_run hfl B8 0 w
 have hcall := hc c d T b hH w r.R.gwAt
 generalize (dCra.enc c).toArray = C at rl5 hcall
 generalize (dCra.enc d).toArray = C' at rl9 hcall
 generalize (tEnc 13 T).toArray = T' at rl11 hcall
 have F := r.F
 have D := r.defers
 refine wp_region ?_
 refine ops_valS (v := .bool true) (v' := (.bool true)) (w' := w) rfl h0.1 (unguarded h0.2.2) (by simp [execOp, h0.2.1, E12]) F D hlen (by decide) (rfl) fun a F D hlen E46 X => ?_
 have E1 := (X 1 (by decide)).trans E1
 have E5 := (X 5 (by decide)).trans E5
 have E9 := (X 9 (by decide)).trans E9
 have E11 := (X 11 (by decide)).trans E11
 have E8 := (X 8 (by decide)).trans E8
 refine ops_valS (v := .bool false) (v' := (.bool false)) (w' := w) rfl h1.1 (unguarded h1.2.2) (by simp [execOp, h1.2.1, E46, Op.unary]) F D hlen (by decide) (rfl) fun a F D hlen E47 X => ?_
 have E1 := (X 1 (by decide)).trans E1
 have E5 := (X 5 (by decide)).trans E5
 have E9 := (X 9 (by decide)).trans E9
 have E11 := (X 11 (by decide)).trans E11
 have E8 := (X 8 (by decide)).trans E8
 refine ops_valS (v := .bool false) (v' := (.bool false)) (w' := w) rfl h2.1 (unguarded h2.2.2) (by simp [execOp, h2.2.1, E47]) F D hlen (by decide) (rfl) fun a F D hlen E48 X => ?_
 have E1 := (X 1 (by decide)).trans E1
 have E5 := (X 5 (by decide)).trans E5
 have E9 := (X 9 (by decide)).trans E9
 have E11 := (X 11 (by decide)).trans E11
 have E8 := (X 8 (by decide)).trans E8
 refine ops_valS (v := .nilIface) (v' := (.func (.func f) #[] #[])) (w' := w) rfl h3.1 (wanted_by h3.2.2 (show _ = some o2 from rfl) h2.1 E48) (by simp [execOp, h3.2.1, E1]) F D hlen (by decide) (rfl) fun a F D hlen E49 X => ?_
 have E5 := (X 5 (by decide)).trans E5
 have E9 := (X 9 (by decide)).trans E9
 have E11 := (X 11 (by decide)).trans E11
 have E8 := (X 8 (by decide)).trans E8
 have E48 := (X 48 (by decide)).trans E48
 refine ops_valS (v := .nilIface) (v' := (.agg C)) (w' := w) rfl h4.1 (wanted_by h4.2.2 (show _ = some o2 from rfl) h2.1 E48) (by simp [execOp, h4.2.1, E5, Instr.loadAt, Instr.sureAddr, rl5]) F D hlen (by decide) (rfl) fun a F D hlen E50 X => ?_
 have E9 := (X 9 (by decide)).trans E9
 have E11 := (X 11 (by decide)).trans E11
 have E8 := (X 8 (by decide)).trans E8
 have E48 := (X 48 (by decide)).trans E48
 have E49 := (X 49 (by decide)).trans E49
 refine ops_valS (v := .nilIface) (v' := (.agg C')) (w' := w) rfl h5.1 (wanted_by h5.2.2 (show _ = some o2 from rfl) h2.1 E48) (by simp [execOp, h5.2.1, E9, Instr.loadAt, Instr.sureAddr, rl9]) F D hlen (by decide) (rfl) fun a F D hlen E51 X => ?_
 have E11 := (X 11 (by decide)).trans E11
 have E8 := (X 8 (by decide)).trans E8
 have E48 := (X 48 (by decide)).trans E48
 have E49 := (X 49 (by decide)).trans E49
 have E50 := (X 50 (by decide)).trans E50
 refine ops_valS (v := .nilIface) (v' := (.agg T')) (w' := w) rfl h6.1 (wanted_by h6.2.2 (show _ = some o2 from rfl) h2.1 E48) (by simp [execOp, h6.2.1, E11, Instr.loadAt, Instr.sureAddr, rl11]) F D hlen (by decide) (rfl) fun a F D hlen E52 X => ?_
 have E8 := (X 8 (by decide)).trans E8
 have E48 := (X 48 (by decide)).trans E48
 have E49 := (X 49 (by decide)).trans E49
 have E50 := (X 50 (by decide)).trans E50
 have E51 := (X 51 (by decide)).trans E51
 refine ops_valS (v := .nilIface) (v' := (.pointer (some ⟨B8, 1, none⟩))) (w' := w) rfl h7.1 (wanted_by h7.2.2 (show _ = some o2 from rfl) h2.1 E48) (by simp [execOp, h7.2.1, E8, rfl1]) F D hlen (by decide) (rfl) fun a F D hlen E53 X => ?_
 have E48 := (X 48 (by decide)).trans E48
 have E49 := (X 49 (by decide)).trans E49
 have E50 := (X 50 (by decide)).trans E50
 have E51 := (X 51 (by decide)).trans E51
 have E52 := (X 52 (by decide)).trans E52
 refine ops_valS (v := .nilIface) (v' := (.string b)) (w' := w) rfl h8.1 (wanted_by h8.2.2 (show _ = some o2 from rfl) h2.1 E48) (by simp [execOp, h8.2.1, E53, Instr.loadAt, Instr.sureAddr, rl8]) F D hlen (by decide) (rfl) fun a F D hlen E54 X => ?_
 have E48 := (X 48 (by decide)).trans E48
 have E49 := (X 49 (by decide)).trans E49
 have E50 := (X 50 (by decide)).trans E50
 have E51 := (X 51 (by decide)).trans E51
 have E52 := (X 52 (by decide)).trans E52
 refine ops_callG (o := o9) (f := f) (args := #[.agg C, .agg C', .agg T', .string b]) rfl (wanted_by h9.2.2 (show _ = some o2 from rfl) h2.1 E48) ?_ hcall ?_
 ·have := go #[.agg C, .agg C', .agg T', .string b] w
  simp [execOp, h9.2.1, resolve, E49, E50, E51, E52, E54, Deferred.ofValue, invoke, this]
 rintro e w' ⟨rfl, hbel⟩
 refine ⟨_, rfl, ?_⟩
 have R' := r.R.pure hbel
 rw [h9.1]
 have F := F.put (v := .bool true) (v' := .bool true) rfl (some 55)
 have D := (put_defers a (some 55) (.bool true)).trans D
 have E55 : (a.put (some 55) (.bool true)).eval (.tmp 55) = .bool true := put_get (by rw [hlen]; decide)
 have E48 := (put_other (a := a) (d := 55) (v := .bool true) (by decide)).trans E48
 have hlen := (put_size (a := a) (d := some 55) (v := .bool true)).trans hlen
 generalize a.put (some 55) (.bool true) = a at F D E55 E48 hlen ⊢
 refine ops_valS (v := .bool false) (v' := (.bool false)) (w' := w') rfl h10.1 (wanted_by h10.2.2 (show _ = some o2 from rfl) h2.1 E48) (by simp [execOp, h10.2.1, E55, Op.unary]) F D hlen (by decide) (rfl) fun a F D hlen E56 X => ?_
 have E48 := (X 48 (by decide)).trans E48
 refine ops_valS (v := .bool false) (v' := (.bool false)) (w' := w') rfl h11.1 (unguarded h11.2.2) (by simp [execOp, h11.2.1, E48, E56, asBool]) F D hlen (by decide) (rfl) fun a F D hlen E57 X => ?_
 exact hK _ _ _ _ _ hk ⟨F, R', r.le, r.len, D⟩
end Go.Proofs.YtbophanlmkbfeaaGreatDoor
