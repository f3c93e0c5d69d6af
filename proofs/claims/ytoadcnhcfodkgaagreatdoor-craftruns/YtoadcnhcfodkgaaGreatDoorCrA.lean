/-
  CraftRuns, by the symbolic run, for the seat YtoadcnhcfodkgaaGreatDoor.
-/
import Derived.Test.YtoadcnhcfodkgaaGreatDoorCfB
import Derived.Test.YtoadcnhcfodkgaaGreatDoorLgC
import Derived.Test.YtoadcnhcfodkgaaGreatDoorDsF
import Derived.Test.YtoadcnhcfodkgaaGreatDoorHoB
namespace Go.Proofs.YtoadcnhcfodkgaaGreatDoor
open Go.RowKit

def crEq (P : Program) (a d : Cra) : Bool := (cmpV P 8 42 (.agg (dCra.enc a).toArray) (.agg (dCra.enc d).toArray)).getD false
theorem crEq_self (a : Cra) : crEq Tryz.prog a a = true := by
  have hs : (cmpV Tryz.prog 8 42 (.agg (dCra.enc a).toArray) (.agg (dCra.enc a).toArray)).isSome = true := by kernel_rfl
  unfold crEq
  cases h : cmpV Tryz.prog 8 42 (.agg (dCra.enc a).toArray) (.agg (dCra.enc a).toArray) with
  | none => rw [h] at hs; cases hs
  | some r =>
    have h1 := cmp_at 8 _ _ _ _ h 9992 (default : World)
    have h2 := craft_self a (default : World)
    rw [h1] at h2
    cases h2
    rfl
def laterT (x : Int × Int) : Int := IntKind.i64.wrap (x.1 + gapW x.2)
theorem later_fx : PureOk Tryz.prog 6 (then' cI (lone' cI)) laterT cI := pure_sx (tbl := []) (dirty := fun _ => []) (n := 4) xmixA Tryz.func6 rfl (fun x Post => by kernel_rfl)
def laterCt : Ct Tryz.prog := pureCt Tryz.prog 6 (then' cI (lone' cI)) laterT cI (go_of Tryz.func6 (by kernel_rfl) (by kernel_rfl)) later_fx
theorem told_size (T : Tl) : (bytesOf T).size = 31 := by
  have hn : (strOf (tlL T)).data.toList.length = 26 := tlStr_size T
  have hw := wrapL_length 32 (strOf (tlL T)).data.toList
  have hb : (bytesOf T).size = (wrapL 32 (strOf (tlL T)).data.toList).length := rfl
  omega
theorem cra_of {d : Cra} {t : Int} (h1 : d.1 = true) (h2 : d.2.1 = t) : ((true, t, d.2.2) : Cra) = d := by
  subst h2
  rw [← h1]
set_option maxRecDepth 100000 in
theorem awake18_at {F : Fs} (hF : FsIs F) : PureOk Tryz.prog 4 none' (fun _ => true) cB := fun x w hw => by
  obtain ⟨h1, h2, _, hi⟩ := first_step hF
  have h2 : (stepF F zeroCra 5 noBytes).1.2.1 = 5 := h2
  have hb := (took hF CInv.zero noBytes (show stays zeroCra 5 = false from rfl)).2
  have hst : ∀ w, GW w → Calls Tryz.prog 7 ((then' cCra (then' cI (lone' cS))).enc (zeroCra, 5, noBytes)).toArray w fun e w' => e = .returned ((two' cCra cS).enc ((true, 5, (stepF F zeroCra 5 noBytes).1.2.2), bytesOf (tlOf (telF F (stepF F zeroCra 5 noBytes).1)))) ∧ Below w.heap.size w w' := fun w hw => by
    have := stepF_at hF.ok zeroCra 5 noBytes (show (0 : Nat) ≤ 5000 by decide) w hw
    rw [hb] at this
    rw [cra_of h1 h2]
    exact this
  have hz := told_size (tlOf (telF F (stepF F zeroCra 5 noBytes).1))
  generalize bytesOf (tlOf (telF F (stepF F zeroCra 5 noBytes).1)) = s at hst hz
  generalize (stepF F zeroCra 5 noBytes).1.2.2 = e at hst
  refine pure_at (d := none') (k := cB) (x := ()) (y := true) (tbl := [ctAt Tryz.prog 7 (then' cCra (then' cI (lone' cS))) (two' cCra cS) (zeroCra, 5, noBytes) ((true, 5, e), s) (go_of Tryz.func7 (by kernel_rfl) (by kernel_rfl)) hst]) (dirty := fun _ => []) (n := 4) xmixA Tryz.func4 rfl (fun Post hP => ?_) w hw
  refine Eq.mpr (β := (then' cCra (then' cI (lone' cS))).enc (zeroCra, 5, noBytes) = (then' cCra (then' cI (lone' cS))).enc (zeroCra, 5, noBytes) ∧ Post (.bool (decide (((s.size : Nat) : Int) = 31)))) (by kernel_rfl) ⟨rfl, ?_⟩
  rw [hz]
  exact hP
def awakeCt (F : Fs) (hF : FsIs F) : Ct Tryz.prog := pureCt Tryz.prog 4 none' (fun _ => true) cB (go_of Tryz.func4 (by kernel_rfl) (by kernel_rfl)) (awake18_at hF)
/-! ### CraftRuns -/
/-- Steps are known of such crafts. -/
def CrQ (x : Cra × Int × ByteArray) : Prop := CInv x.1 ∧ DrI (cDrif x.1) ∧ x.1.2.2.1.size + x.2.2.size ≤ 5000
structure BothOk (F D : Fs) : Prop where
  is : FsIs F
  ds : DsOk D
  same : Same F D
  next : NextOk F
def crStep (F D : Fs) (h : BothOk F D) : Ct Tryz.prog := ppCt Tryz.prog 7 (then' cCra (then' cI (lone' cS))) CrQ (fun x => stepF F x.1 x.2.1 x.2.2) (two' cCra cS) (go_of Tryz.func7 (by kernel_rfl) (by kernel_rfl)) (fun x w hx hw => stepF_at h.is.ok x.1 x.2.1 x.2.2 hx.2.2 w hw)
def crStepD (F D : Fs) (h : BothOk F D) : Ct Tryz.prog := ppCt Tryz.prog 8 (then' cCra (then' cI (lone' cS))) CrQ (fun x => stepF F x.1 x.2.1 x.2.2) (two' cCra cS) (go_of Tryz.func8 (by kernel_rfl) (by kernel_rfl)) (fun x w hx hw => by
  have k := stepD_at D h.ds x hx.2.2 w hw
  rw [(step_both h.is h.same h.next hx.1 hx.2.1 x.2.1 x.2.2).1] at k
  exact k)
def crK : List Nat := [5, 6, 7, 28, 29, 30]
def crF (t n i : Int) (sl : Value) (d : Nat → Value) : List Value := frm [(5, ptr 1), (6, ptr 2), (7, .int .i64 t), (28, sl), (29, .int .i64 n), (30, .int .i64 i)] d 65
def crE (t n i : Int) (sl : Value) (d : Nat → Value) : List Value := vset ((crF t n i sl d).set 31 (.bool (decide (i < n)))) (.tmp 31) false
def crC (c : Cra) : Xm := [[], dCra.enc c, dCra.enc c]
def crT (F D : Fs) (h : BothOk F D) : List (Ct Tryz.prog) := [awakeCt F h.is, laterCt, crStep F D h, crStepD F D h]
/-- Are they few? -/
def crG (nn : Nat) (L : Nat → Int × ByteArray) (sl : Value) (ops : Array Oper) (K : List Value → Xm → Prop) (vt : List Value) (m : Xm) : Prop :=
  vt.getD 1 undef = sl ∧ vt.length = 65 ∧ ∀ b, (b = true → nn ≤ 30 ∧ remS L 0 nn ≤ 3000) → vseq Tryz.prog [] ops (nid 0 ops) K [2, 3, 4, 5, 6, 7, 8, 9, 10] ((vt.set 16 sl).set 17 (.bool b)) m
def crO (F D : Fs) (h : BothOk F D) (nn : Nat) (L : Nat → Int × ByteArray) (sl : Value) : Ov := fun id => match id with
  | 3 => some fun ops _ => crG nn L sl ops
  | 7 => some fun _ _ K => rLen 1 28 29 30 65 nn sl (forget crK 65 3 K)
  | 9 => some fun _ _ => eRec 28 30 32 33 9 3 65 nn L sl
  | 16 => some (cutBy Tryz.prog (crT F D h) (fun _ => []) 16 crK 65 3)
  | _ => none
def crB (P : Program) : Code := cpart [true, true, true, true, true, false, true] (bodyOf P 3)
def crL (P : Program) : Code := cpart [false, false] (crB P)
def crZ (P : Program) : Code := cpart [true, true, true, true, true, true] (bodyOf P 3)
def crFn (P : Program) : Func := fnOf P 3
section
variable (F D : Fs) (h : BothOk F D) (nn : Nat) (L : Nat → Int × ByteArray) (sl : Value)
abbrev crS (k : Nat) (c : Code) : VQ → List Value → Xm → Prop := swpO Tryz.prog (crT F D h) (fun _ => []) k (crO F D h nn L sl) c
def crN (t n i : Int) (Q : VQ) (c : Cra) : Prop := 65 = 65 ∧ (ptrOk 3 sl && true) = true ∧ ∀ d, Q .normal (crF t n (IntKind.i64.wrap (i + 1)) sl d) (crC c)
def crA (Post : Value → Prop) (t n i : Int) (Q : VQ) (r : Cra × ByteArray) : Prop := vif (!crEq Tryz.prog r.1 r.1) (Post (.bool false)) (vif (!(r.2.toList == r.2.toList)) (Post (.bool false)) (crN sl t n i Q r.1))
set_option maxRecDepth 100000 in
theorem cr_round (k : Nat) (t n i : Int) (d : Nat → Value) (c : Cra) (Post : Value → Prop) (Q : VQ) :
    crS F D h nn L sl k (crL Tryz.prog) (retOf Tryz.prog (crFn Tryz.prog) Post Q) (crF t n i sl d) (crC c) =
      vif (decide (i < n)) ((0 ≤ i ∧ i.toNat < nn) ∧ sl = sl ∧ 3 = 3 ∧ 65 = 65 ∧ CrQ (c, laterT (t, (L i.toNat).1), (L i.toNat).2) ∧ CrQ (c, laterT (t, (L i.toNat).1), (L i.toNat).2) ∧
        crA sl Post (laterT (t, (L i.toNat).1)) n i Q (stepF F c (laterT (t, (L i.toNat).1)) (L i.toNat).2))
      (Q (.exit 0) (crE t n i sl d) (crC c)) := by kernel_rfl
set_option maxRecDepth 100000 in
theorem cr_end (k : Nat) (t n i : Int) (d : Nat → Value) (c : Cra) (Post : Value → Prop) :
    crS F D h nn L sl k (crZ Tryz.prog) (retQ Tryz.prog (crFn Tryz.prog) (fun v _ => Post v)) (crE t n i sl d) (crC c) = Post (.bool true) := by kernel_rfl
def crQ0 (k : Nat) (Q : VQ) : VQ := fun e vt m => match e with
  | .normal => crS F D h nn L sl k (crZ Tryz.prog) Q vt m
  | e => Q e vt m
def crX (k : Nat) (t : Int) (Q : VQ) : Prop := sl = sl ∧ 65 = 65 ∧ 65 = 65 ∧ (ptrOk 3 sl && true) = true ∧ ∀ d, crS F D h nn L sl k (crB Tryz.prog) (crQ0 F D h nn L sl k Q) (crF t nn 0 sl d) (crC zeroCra)
set_option maxRecDepth 100000 in
theorem cr_start (k : Nat) (t : Int) (Post : Value → Prop) :
    crS F D h nn L sl k (bodyOf Tryz.prog 3) (retQ Tryz.prog (crFn Tryz.prog) (fun v _ => Post v)) ([.int .i64 t, sl] ++ List.replicate ((fnOf Tryz.prog 3).ntmps - 2) undef) [[]] =
      (sl = sl ∧ 65 = 65 ∧ ∀ b, (b = true → nn ≤ 30 ∧ remS L 0 nn ≤ 3000) → vif (!b) (Post (.bool true)) (vif (decide (t < 0)) (Post (.bool true)) (vif (decide (t > 157766400000)) (Post (.bool true)) (crX F D h nn L sl k t (retQ Tryz.prog (crFn Tryz.prog) (fun v _ => Post v)))))) := by kernel_rfl
end
end Go.Proofs.YtoadcnhcfodkgaaGreatDoor
