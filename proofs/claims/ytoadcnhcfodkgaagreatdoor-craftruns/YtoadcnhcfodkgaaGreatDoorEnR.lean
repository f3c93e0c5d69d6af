/-
  Sensors: the document's Read of a sensor's frame, by the symbolic run, for the seat YtoadcnhcfodkgaaGreatDoor.
-/
import Derived.Test.YtoadcnhcfodkgaaGreatDoorTlY
import Derived.Test.YtoadcnhcfodkgaaGreatDoorRMeth
import Derived.Test.YtoadcnhcfodkgaaGreatDoorRNorm
import Derived.Test.YtoadcnhcfodkgaaGreatDoorRFail
import Derived.Test.YtoadcnhcfodkgaaGreatDoorUSpec
import Derived.Test.YtoadcnhcfodkgaaGreatDoorVNear
namespace Go.Proofs.YtoadcnhcfodkgaaGreatDoor
open Go.RowKit

def eNor : Ct Tryz.prog := flowCt Tryz.prog 79 (then' cI (then' cI (lone' cI))) (fun bad x => normS bad x.1 x.2.1 x.2.2) cI (go_of Tryz.func79 (by kernel_rfl) (by kernel_rfl)) (fun b bad x w _ _ hw => rNorm_any b bad x.1 x.2.1 x.2.2 w hw)
def eDiv : Ct Tryz.prog := flowCt Tryz.prog 70 (then' cI (lone' cI)) (fun bad x => divS bad x.1 x.2) cI (go_of Tryz.func70 (by kernel_rfl) (by kernel_rfl)) (fun b bad x w _ _ hw => rDiv_any b bad x.1 x.2 w hw)
def ePar : Ct Tryz.prog := flowCt Tryz.prog 65 (then' cI (then' cI (lone' cI))) (fun bad x => partS bad x.1 x.2.1 x.2.2) cI (go_of Tryz.func65 (by kernel_rfl) (by kernel_rfl)) (fun b bad x w _ _ hw => rPart_any b bad x.1 x.2.1 x.2.2 w hw)
def eFai : Ct Tryz.prog := flowCt Tryz.prog 68 none' (fun _ _ => ((), true)) cU (go_of Tryz.func68 (by kernel_rfl) (by kernel_rfl)) (fun b bad _ w _ _ hw => rFail_any b bad w hw)
theorem edon_fx : FlowOk Tryz.prog 192 (lone' cV3) (fun bad x => soundS bad x) cV3 := flow_sx (tbl := []) (dirty := fun _ => []) (n := 8) xmixA Tryz.func192 rfl (fun bad x Post => by cases bad <;> kernel_rfl)
def eDon : Ct Tryz.prog := flowCt Tryz.prog 192 (lone' cV3) (fun bad x => soundS bad x) cV3 (go_of Tryz.func192 (by kernel_rfl) (by kernel_rfl)) edon_fx
theorem enor_fx : FlowOk Tryz.prog 23 (lone' cV3) (fun bad x => uNormS bad x) cI := flow_sx (tbl := [eNor]) (dirty := fun _ => []) (n := 8) xmixA Tryz.func23 rfl (fun bad x Post => by kernel_rfl)
def eVno : Ct Tryz.prog := flowCt Tryz.prog 23 (lone' cV3) (fun bad x => uNormS bad x) cI (go_of Tryz.func23 (by kernel_rfl) (by kernel_rfl)) enor_fx
theorem euni_fx : FlowOk Tryz.prog 97 (lone' cV3) (fun bad x => uUnitS bad x) cV3 := flow_sx (tbl := [eDiv, eFai, eDon, eVno]) (dirty := fun _ => []) (n := 8) xmixA Tryz.func97 rfl (fun bad x Post => by
    refine Eq.trans (b := ?m) ?x (Eq.symm ?y)
    case y => unfold uUnitS; simp only [← vif_lt (K := PK cV3 Post)]; exact rfl
    case x => kernel_rfl)
def eUni : Ct Tryz.prog := flowCt Tryz.prog 97 (lone' cV3) (fun bad x => uUnitS bad x) cV3 (go_of Tryz.func97 (by kernel_rfl) (by kernel_rfl)) euni_fx
def eSig : Ct Tryz.prog := predCt Tryz.prog 175 (then' cS (lone' cI)) (fun x K => Two x.1 x.2 ∧ K (.int .i64 (sg (cnt x.1 x.2.toNat)))) (fun _ _ _ hK hs => ⟨hs.1, hK _ hs.2⟩) (go_of Tryz.func175 (by kernel_rfl) (by kernel_rfl))
  (fun x w _ K hs => Calls.mono (rsigned_any x.1 x.2 x.2.toNat w (by have := hs.1.1; omega) hs.1.2.2 (by have := hs.1.2.1; omega)) (by rintro e w' ⟨rfl, hb⟩; exact ⟨_, rfl, rfl, hs.2, hb⟩))
def eCnt : Ct Tryz.prog := predCt Tryz.prog 176 (then' cS (lone' cI)) (fun x K => Two x.1 x.2 ∧ K (.int .i64 (cnt x.1 x.2.toNat : Nat))) (fun _ _ _ hK hs => ⟨hs.1, hK _ hs.2⟩) (go_of Tryz.func176 (by kernel_rfl) (by kernel_rfl))
  (fun x w _ K hs => Calls.mono (rcount_any x.1 x.2 x.2.toNat w (by have := hs.1.1; omega) hs.1.2.2 (by have := hs.1.2.1; omega)) (by rintro e w' ⟨rfl, hb⟩; exact ⟨_, rfl, rfl, hs.2, hb⟩))
abbrev eTb : List (Ct Tryz.prog) := [txD, eSig, eCnt, ePar, eVno, eUni]
/-! ### A frame that is none -/
def enO : Ov := fun id => match id with
  | 5 => some (sureBy Tryz.prog eTb (fun _ => []) 5 35 true)
  | _ => none
set_option maxRecDepth 100000 in
theorem en_ov (w : World) : OvOk Tryz.prog enO [] w [] [] (bodyOf Tryz.prog 61) := by
  refine ovOk_by (ns := [(5, opsOf Tryz.prog 61 5, false)]) (by kernel_rfl) ?_
  intro r hr
  rcases List.mem_cons.1 hr with rfl | hr
  · intro R hR K Q bl vt m a w h r hK
    cases hR
    exact sureBy_sound xmixA h r hK
  · cases hr
def enX (Post : Value → Prop) (b : Bool) : Prop := Value.bool b = .bool true ∧ PJ kRd Post zero5
def enN (k : Int) (s : ByteArray) (Post : Value → Prop) (n : Int) : Prop := vif (decide (k < 1)) (enX Post true) (vif (decide (k > 3)) (enX Post true) (enX Post (!decide ((s.size : Int) = n))))
set_option maxRecDepth 100000 in
theorem rsen_none (k : Int) (s : ByteArray) (h : formOk k s = false) (w : World) (hw : GW w) : Calls Tryz.prog 61 ((lone' cFra).enc (k, s)).toArray w fun e w' => e = .returned (kRd.enc zero5) ∧ Below w.heap.size w w' := by
  refine pure_atO (d := lone' cFra) (k := kRd) (x := (k, s)) (y := zero5) (tbl := eTb) (dirty := fun _ => []) (n := 8) (ov := enO) xmixA (by kernel_rfl) (by kernel_rfl) en_ov ?_ w hw
  refine Eq.mpr (β := vif (decide (k = 2)) (enN k s (fun v => v = kRd.enc zero5) 18) (enN k s (fun v => v = kRd.enc zero5) 12)) (by kernel_rfl) ?_
  have key : ∀ n : Int, (¬ k < 1 → ¬ k > 3 → (s.size : Int) ≠ n) → enN k s (fun v => v = kRd.enc zero5) n := by
    intro n hn
    unfold enN
    by_cases h1 : k < 1
    · rw [decide_eq_true h1]; exact ⟨rfl, rfl⟩
    rw [decide_eq_false h1]
    by_cases h3 : k > 3
    · rw [decide_eq_true h3]; exact ⟨rfl, rfl⟩
    rw [decide_eq_false h3]
    refine ⟨?_, rfl⟩
    rw [decide_eq_false (hn h1 h3)]
    rfl
  unfold formOk at h
  simp only [Bool.or_eq_false_iff, Bool.and_eq_false_iff, decide_eq_false_iff_not] at h
  by_cases h2 : k = 2
  · rw [decide_eq_true h2]
    exact key 18 (fun _ _ => by omega)
  · rw [decide_eq_false h2]
    exact key 12 (fun _ _ => by omega)
/-! ### The gyro -/
def eRat (s : ByteArray) (i : Int) (A C : Prop) : Prop := Two s i ∧ vif (decide (sg (cnt s i.toNat) > 30000)) A (vif (decide (sg (cnt s i.toNat) < -30000)) A C)
theorem eRat_of {s : ByteArray} {i : Int} {A C : Prop} (hp : Two s i) (h : if gyroIn (sg (cnt s i.toNat)) then C else A) : eRat s i A C := by
  refine ⟨hp, ?_⟩
  unfold gyroIn at h
  by_cases h1 : sg (cnt s i.toNat) > 30000
  · rw [decide_eq_true h1]; rw [if_neg (by simp; omega)] at h; exact h
  · rw [decide_eq_false h1]
    by_cases h2 : sg (cnt s i.toNat) < -30000
    · rw [decide_eq_true h2]; rw [if_neg (by simp; omega)] at h; exact h
    · rw [decide_eq_false h2]; rw [if_pos (by simp; omega)] at h; exact h
theorem tick_bs {n : Nat} (f : Nat → UInt8) (hn : 6 ≤ n) : tckE f 6 = tickS (bsOf n f) := tckE_is hn 6 (by decide)
/-- What is said of a right tick. -/
theorem said_of {k : Int} {s : ByteArray} {Post : Value → Prop} {C : Prop} (hf : formOk k s = true) (hP : PJ kRd Post (readT (k, s))) (h : PJ kRd Post (if saidOk k s 6 then ((k, tickS s, (saidV k s 6).1, (saidV k s 6).2.1, (saidV k s 6).2.2, ()), true) else zero5) → C) : vif (!cRight (tickS s)) (PJ kRd Post zero5) C := by
  rw [readT_if, readOk_of hf] at hP
  cases hc : cRight (tickS s)
  · rw [hc] at hP; exact hP
  · rw [hc, Bool.true_and] at hP; exact h hP
theorem two_bs {n : Nat} {f : Nat → UInt8} {i : Int} (h0 : 0 ≤ i) (h1 : i < 100) (h : i.toNat + 1 < n) : Two (bsOf n f) i := ⟨h0, h1, by rw [bs_size]; exact h⟩
set_option maxRecDepth 100000 in
theorem rsen_1 (f : Nat → UInt8) (w : World) (hw : GW w) : Calls Tryz.prog 61 ((lone' cFra).enc (1, bsOf 12 f)).toArray w fun e w' => e = .returned (kRd.enc (readT (1, bsOf 12 f))) ∧ Below w.heap.size w w' := by
  refine pure_at (d := lone' cFra) (k := kRd) (x := (1, bsOf 12 f)) (y := readT (1, bsOf 12 f)) (tbl := eTb) (dirty := fun _ => []) (n := 8) xmixA Tryz.func61 rfl (fun Post hP => ?_) w hw
  refine Eq.mpr (β := vif (!cRight (tckE f 6)) (PJ kRd Post zero5) (eRat (bsOf 12 f) 6 (PJ kRd Post zero5) (eRat (bsOf 12 f) 8 (PJ kRd Post zero5) (eRat (bsOf 12 f) 10 (PJ kRd Post zero5) (PJ kRd Post ((1, tckE f 6, IntKind.i64.wrap (sg (cnt (bsOf 12 f) (6 : Int).toNat) * 33554432), IntKind.i64.wrap (sg (cnt (bsOf 12 f) (8 : Int).toNat) * 33554432), IntKind.i64.wrap (sg (cnt (bsOf 12 f) (10 : Int).toNat) * 33554432), ()), true)))))) (by kernel_rfl) ?_
  rw [tick_bs f (show 6 ≤ 12 by decide)]
  refine said_of rfl hP (fun hP => ?_)
  have t6 : Two (bsOf 12 f) 6 := two_bs (by decide) (by decide) (by decide)
  have t8 : Two (bsOf 12 f) 8 := two_bs (by decide) (by decide) (by decide)
  have t10 : Two (bsOf 12 f) 10 := two_bs (by decide) (by decide) (by decide)
  generalize bsOf 12 f = s at *
  have hP : PJ kRd Post (if gyroOk (sg (cnt s 6)) (sg (cnt s 8)) (sg (cnt s 10)) then ((1, tickS s, sg (cnt s 6) * 33554432, sg (cnt s 8) * 33554432, sg (cnt s 10) * 33554432, ()), true) else zero5) := hP
  have e : ∀ n : Int, gyroIn n = true → IntKind.i64.wrap (n * 33554432) = n * 33554432 := fun n h => by
    unfold gyroIn at h
    have := of_decide_eq_true h
    rw [IntKind.wrap_i64]
    omega
  unfold gyroOk at hP
  refine eRat_of t6 ?_
  show if gyroIn (sg (cnt s 6)) then _ else _
  cases g6 : gyroIn (sg (cnt s 6))
  · rw [g6] at hP; exact hP
  refine eRat_of t8 ?_
  show if gyroIn (sg (cnt s 8)) then _ else _
  cases g8 : gyroIn (sg (cnt s 8))
  · rw [g6, g8] at hP; exact hP
  refine eRat_of t10 ?_
  show if gyroIn (sg (cnt s 10)) then PJ kRd Post ((1, tickS s, IntKind.i64.wrap (sg (cnt s 6) * 33554432), IntKind.i64.wrap (sg (cnt s 8) * 33554432), IntKind.i64.wrap (sg (cnt s 10) * 33554432), ()), true) else _
  cases g10 : gyroIn (sg (cnt s 10))
  · rw [g6, g8, g10] at hP; exact hP
  rw [g6, g8, g10] at hP
  rw [e _ g6, e _ g8, e _ g10]
  exact hP
/-! ### The magnetometer -/
set_option maxRecDepth 100000 in
theorem rsen_3 (f : Nat → UInt8) (w : World) (hw : GW w) : Calls Tryz.prog 61 ((lone' cFra).enc (3, bsOf 12 f)).toArray w fun e w' => e = .returned (kRd.enc (readT (3, bsOf 12 f))) ∧ Below w.heap.size w w' := by
  refine pure_at (d := lone' cFra) (k := kRd) (x := (3, bsOf 12 f)) (y := readT (3, bsOf 12 f)) (tbl := eTb) (dirty := fun _ => []) (n := 8) xmixA Tryz.func61 rfl (fun Post hP => ?_) w hw
  refine Eq.mpr (β := vif (!cRight (tckE f 6)) (PJ kRd Post zero5) (Two (bsOf 12 f) 6 ∧ Two (bsOf 12 f) 8 ∧ Two (bsOf 12 f) 10 ∧ vif (decide (magN (sg (cnt (bsOf 12 f) 6)) (sg (cnt (bsOf 12 f) 8)) (sg (cnt (bsOf 12 f) 10)) < 1099511627776)) (PJ kRd Post zero5) (vif (decide (magN (sg (cnt (bsOf 12 f) 6)) (sg (cnt (bsOf 12 f) 8)) (sg (cnt (bsOf 12 f) 10)) > 131941395333120)) (PJ kRd Post zero5) (PJ kRd Post ((3, tckE f 6, (magS (sg (cnt (bsOf 12 f) 6)) (sg (cnt (bsOf 12 f) 8)) (sg (cnt (bsOf 12 f) 10))).1.1, (magS (sg (cnt (bsOf 12 f) 6)) (sg (cnt (bsOf 12 f) 8)) (sg (cnt (bsOf 12 f) 10))).1.2.1, (magS (sg (cnt (bsOf 12 f) 6)) (sg (cnt (bsOf 12 f) 8)) (sg (cnt (bsOf 12 f) 10))).1.2.2, ()), true))))) (by kernel_rfl) ?_
  rw [tick_bs f (show 6 ≤ 12 by decide)]
  refine said_of rfl hP (fun hP => ⟨two_bs (by decide) (by decide) (by decide), two_bs (by decide) (by decide) (by decide), two_bs (by decide) (by decide) (by decide), ?_⟩)
  generalize bsOf 12 f = s at *
  have hP : PJ kRd Post (if magOk (sg (cnt s 6)) (sg (cnt s 8)) (sg (cnt s 10)) then ((3, tickS s, (magS (sg (cnt s 6)) (sg (cnt s 8)) (sg (cnt s 10))).1.1, (magS (sg (cnt s 6)) (sg (cnt s 8)) (sg (cnt s 10))).1.2.1, (magS (sg (cnt s 6)) (sg (cnt s 8)) (sg (cnt s 10))).1.2.2, ()), true) else zero5) := hP
  unfold magOk at hP
  generalize magN (sg (cnt s 6)) (sg (cnt s 8)) (sg (cnt s 10)) = N at *
  by_cases h1 : N < 1099511627776
  · rw [decide_eq_true h1]; rw [decide_eq_false (show ¬ 1099511627776 ≤ N by omega)] at hP; exact hP
  rw [decide_eq_false h1]
  rw [decide_eq_true (show 1099511627776 ≤ N by omega)] at hP
  by_cases h2 : N > 131941395333120
  · rw [decide_eq_true h2]; rw [decide_eq_false (show ¬ N ≤ 131941395333120 by omega)] at hP; exact hP
  · rw [decide_eq_false h2]; rw [decide_eq_true (show N ≤ 131941395333120 by omega)] at hP; exact hP
/-! ### The sun's cells -/
def eDir (s : ByteArray) (i j : Int) (seen : Bool) (C : Bool → Prop) : Prop := Two s i ∧ Two s j ∧ vif seen (C true) (vif (decide (((cnt s i.toNat : Nat) : Int) ≥ 2000)) (C true) (C (decide (((cnt s j.toNat : Nat) : Int) ≥ 2000))))
theorem eDir_of {s : ByteArray} {i j : Int} {seen : Bool} {C : Bool → Prop} (hi : Two s i) (hj : Two s j) (h : C (seen || decide (((cnt s i.toNat : Nat) : Int) ≥ 2000) || decide (((cnt s j.toNat : Nat) : Int) ≥ 2000))) : eDir s i j seen C := by
  refine ⟨hi, hj, ?_⟩
  cases seen
  · cases k : decide (((cnt s i.toNat : Nat) : Int) ≥ 2000)
    · rw [k] at h
      exact h
    · rw [k] at h
      exact h
  · exact h
def eSun (s : ByteArray) : V3 := (IntKind.i64.wrap (IntKind.i64.wrap (((cnt s (6 : Int).toNat : Nat) : Int) - ((cnt s (8 : Int).toNat : Nat) : Int)) * 16777216), IntKind.i64.wrap (IntKind.i64.wrap (((cnt s (10 : Int).toNat : Nat) : Int) - ((cnt s (12 : Int).toNat : Nat) : Int)) * 16777216), IntKind.i64.wrap (IntKind.i64.wrap (((cnt s (14 : Int).toNat : Nat) : Int) - ((cnt s (16 : Int).toNat : Nat) : Int)) * 16777216))
def eLit (s : ByteArray) (t : Int) (Post : Value → Prop) (b : Bool) : Prop := vif (!b) (PJ kRd Post zero5) (vif (uUnitS false (eSun s)).2 (PJ kRd Post zero5) (PJ kRd Post ((2, t, (uUnitS false (eSun s)).1.1, (uUnitS false (eSun s)).1.2.1, (uUnitS false (eSun s)).1.2.2, ()), true)))
set_option maxRecDepth 100000 in
theorem rsen_2 (f : Nat → UInt8) (w : World) (hw : GW w) : Calls Tryz.prog 61 ((lone' cFra).enc (2, bsOf 18 f)).toArray w fun e w' => e = .returned (kRd.enc (readT (2, bsOf 18 f))) ∧ Below w.heap.size w w' := by
  refine pure_at (d := lone' cFra) (k := kRd) (x := (2, bsOf 18 f)) (y := readT (2, bsOf 18 f)) (tbl := eTb) (dirty := fun _ => []) (n := 8) xmixA Tryz.func61 rfl (fun Post hP => ?_) w hw
  refine Eq.mpr (β := vif (!cRight (tckE f 6)) (PJ kRd Post zero5) (eDir (bsOf 18 f) 6 8 false fun b => eDir (bsOf 18 f) 10 12 b fun b => eDir (bsOf 18 f) 14 16 b fun b => eLit (bsOf 18 f) (tckE f 6) Post b)) (by kernel_rfl) ?_
  rw [tick_bs f (show 6 ≤ 18 by decide)]
  refine said_of rfl hP (fun hP => ?_)
  have t : ∀ i : Int, 0 ≤ i → i ≤ 16 → Two (bsOf 18 f) i := fun i h0 h1 => two_bs h0 (by omega) (by omega)
  refine eDir_of (t _ (by decide) (by decide)) (t _ (by decide) (by decide)) (eDir_of (t _ (by decide) (by decide)) (t _ (by decide) (by decide)) (eDir_of (t _ (by decide) (by decide)) (t _ (by decide) (by decide)) ?_))
  generalize bsOf 18 f = s at *
  have hv : eSun s = sunD (cnt s 6 : Nat) (cnt s 8 : Nat) (cnt s 10 : Nat) (cnt s 12 : Nat) (cnt s 14 : Nat) (cnt s 16 : Nat) := by
    have e : ∀ a b : Nat, a < 65536 → b < 65536 → IntKind.i64.wrap (IntKind.i64.wrap ((a : Int) - (b : Int)) * 16777216) = ((a : Int) - b) * 16777216 := fun a b ha hb => by
      rw [IntKind.wrap_i64, IntKind.wrap_i64]
      omega
    unfold eSun sunD
    rw [e _ _ (cnt_lt _ _) (cnt_lt _ _), e _ _ (cnt_lt _ _) (cnt_lt _ _), e _ _ (cnt_lt _ _) (cnt_lt _ _)]
    rfl
  have hP : PJ kRd Post (if sunOk (cnt s 6 : Nat) (cnt s 8 : Nat) (cnt s 10 : Nat) (cnt s 12 : Nat) (cnt s 14 : Nat) (cnt s 16 : Nat) then ((2, tickS s, (vUnitS false (sunD (cnt s 6 : Nat) (cnt s 8 : Nat) (cnt s 10 : Nat) (cnt s 12 : Nat) (cnt s 14 : Nat) (cnt s 16 : Nat))).1.1, (vUnitS false (sunD (cnt s 6 : Nat) (cnt s 8 : Nat) (cnt s 10 : Nat) (cnt s 12 : Nat) (cnt s 14 : Nat) (cnt s 16 : Nat))).1.2.1, (vUnitS false (sunD (cnt s 6 : Nat) (cnt s 8 : Nat) (cnt s 10 : Nat) (cnt s 12 : Nat) (cnt s 14 : Nat) (cnt s 16 : Nat))).1.2.2, ()), true) else zero5) := hP
  unfold sunOk sunS at hP
  show eLit s (tickS s) Post (lit (cnt s 6 : Nat) (cnt s 8 : Nat) (cnt s 10 : Nat) (cnt s 12 : Nat) (cnt s 14 : Nat) (cnt s 16 : Nat))
  unfold eLit
  rw [hv, uUnit_eq]
  generalize sunD (cnt s 6 : Nat) (cnt s 8 : Nat) (cnt s 10 : Nat) (cnt s 12 : Nat) (cnt s 14 : Nat) (cnt s 16 : Nat) = D at hP ⊢
  cases hl : lit (cnt s 6 : Nat) (cnt s 8 : Nat) (cnt s 10 : Nat) (cnt s 12 : Nat) (cnt s 14 : Nat) (cnt s 16 : Nat)
  · rw [hl] at hP; exact hP
  · rw [hl] at hP
    cases hu : (vUnitS false D).2
    · rw [hu] at hP; exact hP
    · rw [hu] at hP; exact hP
theorem rsen_any (k : Int) (s : ByteArray) (w : World) (hw : GW w) : Calls Tryz.prog 61 ((lone' cFra).enc (k, s)).toArray w fun e w' => e = .returned (kRd.enc (readT (k, s))) ∧ Below w.heap.size w w' := by
  cases hf : formOk k s
  · have hr : readT (k, s) = zero5 := by
      have h0 : readOk k s = false := by unfold readOk; rw [hf]; rfl
      rw [readT_if, h0]
      rfl
    rw [hr]
    exact rsen_none k s hf w hw
  · have hb := bsOf_is s
    unfold formOk at hf
    simp only [Bool.or_eq_true, Bool.and_eq_true, decide_eq_true_eq] at hf
    generalize (fun i => s.data.toList.getD i 0) = f at hb
    rcases hf with (⟨rfl, hs⟩ | ⟨rfl, hs⟩) | ⟨rfl, hs⟩
    · rw [hs] at hb; rw [hb]; exact rsen_1 f w hw
    · rw [hs] at hb; rw [hb]; exact rsen_3 f w hw
    · rw [hs] at hb; rw [hb]; exact rsen_2 f w hw
end Go.Proofs.YtoadcnhcfodkgaaGreatDoor
