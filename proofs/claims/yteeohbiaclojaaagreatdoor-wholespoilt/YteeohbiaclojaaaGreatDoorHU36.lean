/-
A part.
A part.
A part.
A part.
A part.
A part.
-/
import Derived.Lib.ConvBytes
import Derived.RegionTactic
import Derived.ChangeAlike
import Derived.BigRegion
import Derived.Test.YteeohbiaclojaaaGreatDoorRows
import Derived.WalkKit
import Derived.ProofKit
import Derived.OpenShut
import Derived.Lib.SmallJoins
import Derived.Test.YteeohbiaclojaaaGreatDoorHU35
import Derived.Test.YteeohbiaclojaaaGreatDoorHU18
namespace Go.Proofs.YteeohbiaclojaaaGreatDoor
open Go.RowKit
def spS (n cp : Nat) : Value := .slice (some ⟨2, 0, none⟩) n cp
def spF0 (n cp : Nat) (i : Int) (d : Nat → Value) : List Value := frm [(3, ptr 1), (9, spS n cp), (11, .int .i64 i)] d 142
def spE0 (n cp : Nat) (i : Int) (d : Nat → Value) : List Value := vset (((((spF0 n cp i d).set 62 .nilIface).set 63 .nilIface).set 64 .nilIface).set 65 (.bool (decide (i < (n : Int))))) (.tmp 65) false
def spF1 (n cp : Nat) (t nn i : Int) (sl : Value) (d : Nat → Value) : List Value := frm [(9, spS n cp), (12, ptr 3), (13, .int .i64 t), (76, sl), (77, .int .i64 nn), (78, .int .i64 i)] d 142
def spE1 (n cp : Nat) (t nn i : Int) (sl : Value) (d : Nat → Value) : List Value := vset ((spF1 n cp t nn i sl d).set 79 (.bool (decide (i < nn)))) (.tmp 79) false
def spM (t : Int) (ao : Option Addr) (nn cap : Nat) : Xm := [[], [.int .i64 t, .slice ao nn cap], []]
def spM1 (t : Int) (ao : Option Addr) (nn cap : Nat) (c : Cra) : Xm := [[], [.int .i64 t, .slice ao nn cap], [], dCra.enc c]
def spT (F : Fs) (hF : FsIs F) : List (Ct Tryz.prog) := [stepCt F hF]
def spK : List Nat := [9, 12, 13, 76, 77, 78]
def spO (F : Fs) (hF : FsIs F) (n cp : Nat) (f : Nat → UInt8) (T : ByteArray) (ao : Option Addr) (nn cap : Nat) (L : Nat → Int × ByteArray) (sl : Value) : Ov := fun id => match id with
 | 12 => some fun _ _ => eLen n cp
 | 13 => some (cutBy Tryz.prog (spT F hF) (fun _ => []) 13 [3, 9, 11] 142 3)
 | 14 => some fun _ _ => eByt n cp f
 | 18 => some fun _ _ K => eSl 3 75 76 77 78 142 ao nn cap sl (forget spK 142 4 K)
 | 20 => some fun _ _ => eRec 76 78 80 81 15 4 142 nn L sl
 | 23 => some (cutBy Tryz.prog (spT F hF) (fun _ => []) 23 spK 142 4)
 | 27 => some fun ops _ => eCon (spT F hF) n cp T ops
 | _ => none
def spX (P : Program) : Code := cpart [true, true, true, true, true, true, true, true, false, true] (bodyOf P 3)
def spL (P : Program) : Code := cpart [false, false] (spX P)
def spR (P : Program) : Code := cpart [true, true, true, true, true, true, true, true, true] (bodyOf P 3)
def spB (P : Program) : Code := cpart [true, true, false, true] (spR P)
def spN (P : Program) : Code := cpart [false, false] (spB P)
def spZ (P : Program) : Code := cpart [true, true, true] (spR P)
def eqCra (P : Program) (a d : Cra) : Bool := (cmpV P 8 50 (.agg (dCra.enc a).toArray) (.agg (dCra.enc d).toArray)).getD false
theorem eqCra_self (a : Cra) : eqCra Tryz.prog a a = true := by
 have hs : (cmpV Tryz.prog 8 50 (.agg (dCra.enc a).toArray) (.agg (dCra.enc a).toArray)).isSome = true := by kernel_rfl
 unfold eqCra
 cases h : cmpV Tryz.prog 8 50 (.agg (dCra.enc a).toArray) (.agg (dCra.enc a).toArray) with
 | none => rw [h] at hs; cases hs
 | some r =>
  have h1 := cmp_at 8 _ _ _ _ h 9992 (default : World)
  have h2 := craft_self a (default : World)
  rw [h1] at h2
  cases h2
  rfl
section
variable (F : Fs) (hF : FsIs F) (n cp : Nat) (f : Nat → UInt8) (T : ByteArray) (ao : Option Addr) (nn cap : Nat) (L : Nat → Int × ByteArray) (sl : Value)
set_option maxRecDepth 100000 in
theorem sp_byte (k : Nat) (i t : Int) (d : Nat → Value) (Post : Value → Prop) (Q : VQ) :
    swpO Tryz.prog (spT F hF) (fun _ => []) k (spO F hF n cp f T ao nn cap L sl) (spL Tryz.prog) (retOf Tryz.prog (fnOf Tryz.prog 3) Post Q) (spF0 n cp i d) (spM t ao nn cap) =
      (spS n cp = spS n cp ∧ 142 = 142 ∧ vif (decide (i < (n : Int))) ((0 ≤ i ∧ i.toNat < n) ∧ spS n cp = spS n cp ∧ 142 = 142 ∧ vif (decide (((f i.toNat).toNat : Int) = 165)) (Post (.bool true)) (142 = 142 ∧ true = true ∧ ∀ d, Q .normal (spF0 n cp (IntKind.i64.wrap (i + 1)) d) (spM t ao nn cap)))
        (Q (.exit 0) (spE0 n cp i d) (spM t ao nn cap))) := by kernel_rfl
def spQ (k : Nat) (Q : VQ) : VQ := fun e vt m => match e with
 | .normal => swpO Tryz.prog (spT F hF) (fun _ => []) k (spO F hF n cp f T ao nn cap L sl) (spZ Tryz.prog) Q vt m
 | e => Q e vt m
set_option maxRecDepth 100000 in
theorem sp_mid (k : Nat) (i t : Int) (d : Nat → Value) (Q : VQ) :
    swpO Tryz.prog (spT F hF) (fun _ => []) k (spO F hF n cp f T ao nn cap L sl) (spR Tryz.prog) Q (spE0 n cp i d) (spM t ao nn cap) =
      (ptr 1 = ptr 1 ∧ (∃ x, some [Value.int .i64 t, .slice ao nn cap] = some [x, .slice ao nn cap]) ∧ 142 = 142 ∧ 142 = 142 ∧ (ptrOk 4 sl && true) = true ∧ ∀ d, swpO Tryz.prog (spT F hF) (fun _ => []) k (spO F hF n cp f T ao nn cap L sl) (spB Tryz.prog) (spQ F hF n cp f T ao nn cap L sl k Q) (spF1 n cp t nn 0 sl d) (spM1 t ao nn cap zeroCra)) := by kernel_rfl
def spNx (t0 t m i : Int) (Q : VQ) (c : Cra) : Prop := 142 = 142 ∧ (ptrOk 4 sl && true) = true ∧ ∀ d, Q .normal (spF1 n cp t m (IntKind.i64.wrap (i + 1)) sl d) (spM1 t0 ao nn cap c)
set_option maxRecDepth 100000 in
theorem sp_round (k : Nat) (t0 t m i : Int) (d : Nat → Value) (c : Cra) (Q : VQ) :
    swpO Tryz.prog (spT F hF) (fun _ => []) k (spO F hF n cp f T ao nn cap L sl) (spN Tryz.prog) Q (spF1 n cp t m i sl d) (spM1 t0 ao nn cap c) =
      vif (decide (i < m)) ((0 ≤ i ∧ i.toNat < nn) ∧ sl = sl ∧ 4 = 4 ∧ 142 = 142 ∧ StepOk (c, IntKind.i64.wrap (t + gapW (L i.toNat).1), (L i.toNat).2) ∧
        vif (stays c (IntKind.i64.wrap (t + gapW (L i.toNat).1))) (spNx n cp ao nn cap sl t0 (IntKind.i64.wrap (t + gapW (L i.toNat).1)) m i Q c)
          (spNx n cp ao nn cap sl t0 (IntKind.i64.wrap (t + gapW (L i.toNat).1)) m i Q (stepF F c (IntKind.i64.wrap (t + gapW (L i.toNat).1)) (L i.toNat).2).1))
      (Q (.exit 2) (spE1 n cp t m i sl d) (spM1 t0 ao nn cap c)) := by kernel_rfl
def rejN (c : Cra) : Int := c.2.2.2.2.2.2.2.2.2.2.1
def spD (Post : Value → Prop) (a d : Cra) : Prop := vif (!d.1) (Post (.bool (eqCra Tryz.prog a d))) (vif (decide (rejN d < rejN a)) (Post (.bool (eqCra Tryz.prog a d))) (vif (decide (rejN d > IntKind.i64.wrap (rejN a + 1))) (Post (.bool (eqCra Tryz.prog a d))) (Post (.bool (eqCra Tryz.prog a (setR d (rejN a)))))))
def spC2 (Post : Value → Prop) (c : Cra) (t : Int) (a : Cra) : Prop := spS n cp = spS n cp ∧ ptr 3 = ptr 3 ∧ 142 = 142 ∧ StepOk (c, t, T) ∧ vif (stays c t) (spD Post a c) (spD Post a (stepF F c t T).1)
set_option maxRecDepth 100000 in
theorem sp_end (k : Nat) (t0 t m i : Int) (d : Nat → Value) (c : Cra) (Post : Value → Prop) :
    swpO Tryz.prog (spT F hF) (fun _ => []) k (spO F hF n cp f T ao nn cap L sl) (spZ Tryz.prog) (retQ Tryz.prog (fnOf Tryz.prog 3) (fun v _ => Post v)) (spE1 n cp t m i sl d) (spM1 t0 ao nn cap c) =
      (StepOk (leftC c noBytes, IntKind.i64.wrap (c.2.1 + 500), noBytes) ∧ vif (stays (leftC c noBytes) (IntKind.i64.wrap (c.2.1 + 500))) (spC2 F n cp T Post (leftC c noBytes) (IntKind.i64.wrap (c.2.1 + 500)) (leftC c noBytes))
        (spC2 F n cp T Post (leftC c noBytes) (IntKind.i64.wrap (c.2.1 + 500)) (stepF F (leftC c noBytes) (IntKind.i64.wrap (c.2.1 + 500)) noBytes).1)) := by kernel_rfl
end
end Go.Proofs.YteeohbiaclojaaaGreatDoor
namespace Go.Proofs.YteeohbiaclojaaaGreatDoor
open Go.RowKit
def seqQ (S : List Value → Xm → Prop) (Q : VQ) : VQ := fun e vt m => match e with
 | .normal => S vt m
 | e => Q e vt m
def blkQ (id : Nat) (Q : VQ) : VQ := fun e vt m => match e with
 | .exit id' => if id' = id then Q .normal vt m else Q (.exit id') vt m
 | e => Q e vt m
theorem retOf_sp {P : Program} {fn : Func} {Post : Value → Prop} {Q : VQ} (h : ∀ vt m, Q .ret vt m = retQ P fn (fun v _ => Post v) .ret vt m) : retOf P fn Post Q = Q := by
 funext e vt m
 cases e <;> first | rfl | exact (h vt m).symm
section
variable (F : Fs) (hF : FsIs F) (n cp : Nat) (f : Nat → UInt8) (T : ByteArray) (ao : Option Addr) (nn cap : Nat) (L : Nat → Int × ByteArray) (sl : Value)
set_option maxRecDepth 100000 in
theorem sp_in (k : Nat) (Q : VQ) (vt : List Value) (m : Xm) : swpO Tryz.prog (spT F hF) (fun _ => []) k (spO F hF n cp f T ao nn cap L sl) (.seq (spX Tryz.prog) (spR Tryz.prog)) Q vt m =
    loopN k (swpO Tryz.prog (spT F hF) (fun _ => []) k (spO F hF n cp f T ao nn cap L sl) (spL Tryz.prog)) (blkQ 0 (seqQ (swpO Tryz.prog (spT F hF) (fun _ => []) k (spO F hF n cp f T ao nn cap L sl) (spR Tryz.prog) Q) Q)) vt m := by kernel_rfl
set_option maxRecDepth 100000 in
theorem sp_in2 (k : Nat) (Q : VQ) (vt : List Value) (m : Xm) : swpO Tryz.prog (spT F hF) (fun _ => []) k (spO F hF n cp f T ao nn cap L sl) (spB Tryz.prog) Q vt m =
    loopN k (swpO Tryz.prog (spT F hF) (fun _ => []) k (spO F hF n cp f T ao nn cap L sl) (spN Tryz.prog)) (blkQ 2 Q) vt m := by kernel_rfl
end
section
variable {F : Fs} {n cp : Nat} {f : Nat → UInt8} {ao : Option Addr} {nn cap : Nat} {L : Nat → Int × ByteArray} {sl : Value} {G : VQ → List Value → Xm → Prop} {P : Program} {fn : Func} {Post : Value → Prop} {t0 : Int}
theorem sp_bytes (hG : ∀ i d Q, G (retOf P fn Post Q) (spF0 n cp i d) (spM t0 ao nn cap) = (spS n cp = spS n cp ∧ 142 = 142 ∧ vif (decide (i < (n : Int))) ((0 ≤ i ∧ i.toNat < n) ∧ spS n cp = spS n cp ∧ 142 = 142 ∧ vif (decide (((f i.toNat).toNat : Int) = 165)) (Post (.bool true)) (142 = 142 ∧ true = true ∧ ∀ d, Q .normal (spF0 n cp (IntKind.i64.wrap (i + 1)) d) (spM t0 ao nn cap)))
        (Q (.exit 0) (spE0 n cp i d) (spM t0 ao nn cap)))) (hn : n ≤ 1000) (hP : Post (.bool true)) (Q : VQ) (hQ : Bare n f → ∀ i d, Q (.exit 0) (spE0 n cp i d) (spM t0 ao nn cap)) (k : Nat) :
    ∀ (i q : Nat), i + k = n → k < q → (∀ j, 1 ≤ j → j < i → ((f j).toNat : Int) ≠ 165) → ∀ d, loopN q G (retOf P fn Post Q) (spF0 n cp i d) (spM t0 ao nn cap) := by
 induction k with
 | zero =>
  intro i q e hq hb d
  obtain ⟨q, rfl⟩ : ∃ z, q = z + 1 := ⟨q - 1, by omega⟩
  rw [loop_ret, hG, decide_eq_false (by omega)]
  exact ⟨rfl, rfl, hQ (fun j h1 h2 => hb j h1 (by omega)) i d⟩
 | succ k ih =>
  intro i q e hq hb d
  obtain ⟨q, rfl⟩ : ∃ z, q = z + 1 := ⟨q - 1, by omega⟩
  rw [loop_ret, hG, decide_eq_true (by omega), Int.toNat_natCast]
  refine ⟨rfl, rfl, ⟨by omega, by omega⟩, rfl, rfl, ?_⟩
  by_cases h5 : ((f i).toNat : Int) = 165
  ·rw [decide_eq_true h5]
   exact hP
  ·rw [decide_eq_false h5]
   refine ⟨rfl, rfl, fun d => ?_⟩
   have hw : IntKind.i64.wrap ((i : Int) + 1) = ((i + 1 : Nat) : Int) := by
    rw [IntKind.wrap_i64]
    omega
   rw [hw]
   exact ih (i + 1) q (by omega) (by omega) (fun j h1 h2 => by
    by_cases e : j = i
    ·rw [e]; exact h5
    ·exact hb j h1 (by omega)) d
theorem sp_steps (hF : FsIs F) (hG : ∀ t m i d c Q, G Q (spF1 n cp t m i sl d) (spM1 t0 ao nn cap c) = vif (decide (i < m)) ((0 ≤ i ∧ i.toNat < nn) ∧ sl = sl ∧ 4 = 4 ∧ 142 = 142 ∧ StepOk (c, IntKind.i64.wrap (t + gapW (L i.toNat).1), (L i.toNat).2) ∧
        vif (stays c (IntKind.i64.wrap (t + gapW (L i.toNat).1))) (spNx n cp ao nn cap sl t0 (IntKind.i64.wrap (t + gapW (L i.toNat).1)) m i Q c)
          (spNx n cp ao nn cap sl t0 (IntKind.i64.wrap (t + gapW (L i.toNat).1)) m i Q (stepF F c (IntKind.i64.wrap (t + gapW (L i.toNat).1)) (L i.toNat).2).1))
      (Q (.exit 2) (spE1 n cp t m i sl d) (spM1 t0 ao nn cap c))) (hn : nn ≤ 1000000) (hp : ptrOk 1 sl = true) (Q : VQ) (hQ : ∀ t i d c, CInv c → Q (.exit 2) (spE1 n cp t nn i sl d) (spM1 t0 ao nn cap c)) (k : Nat) :
    ∀ (i q : Nat), i + k = nn → k < q → ∀ (t : Int) (d : Nat → Value) (c : Cra), CInv c → c.2.2.1.size + remS L i k ≤ 3000 → loopN q G Q (spF1 n cp t nn i sl d) (spM1 t0 ao nn cap c) := by
 have hp4 : (ptrOk 4 sl && true) = true := (Bool.and_true _).trans (ptrOk_le hp (by decide))
 induction k with
 | zero =>
  intro i q e hq t d c hi _
  obtain ⟨q, rfl⟩ : ∃ z, q = z + 1 := ⟨q - 1, by omega⟩
  rw [loopN, hG, decide_eq_false (by omega)]
  exact hQ _ _ _ _ hi
 | succ k ih =>
  intro i q e hq t d c hi hz
  obtain ⟨q, rfl⟩ : ∃ z, q = z + 1 := ⟨q - 1, by omega⟩
  have hz : c.2.2.1.size + ((L i).2.size + remS L (i + 1) k) ≤ 3000 := hz
  rw [loopN, hG, decide_eq_true (by omega), Int.toNat_natCast]
  have hw : IntKind.i64.wrap ((i : Int) + 1) = ((i + 1 : Nat) : Int) := by
   rw [IntKind.wrap_i64]
   omega
  generalize IntKind.i64.wrap (t + gapW (L i).1) = t'
  refine ⟨⟨by omega, by omega⟩, rfl, rfl, rfl, ⟨hi, by show c.2.2.1.size + (L i).2.size ≤ 5000; omega⟩, ?_⟩
  cases hs : stays c t'
  ·have hk := took hF hi (L i).2 hs
   have hl := took_left hk.1
   refine ⟨rfl, hp4, fun d => ?_⟩
   rw [hw]
   exact ih (i + 1) q (by omega) (by omega) t' d _ hk.1.inv (by omega)
  ·refine ⟨rfl, hp4, fun d => ?_⟩
   rw [hw]
   exact ih (i + 1) q (by omega) (by omega) t' d c hi (by omega)
end
theorem spD_self {Post : Value → Prop} (hP : Post (.bool true)) (a : Cra) : spD Post a a := by
 have h1 : Post (.bool (eqCra Tryz.prog a a)) := by rw [eqCra_self]; exact hP
 have h2 : Post (.bool (eqCra Tryz.prog a (setR a (rejN a)))) := h1
 unfold spD
 cases !a.1
 ·cases decide (rejN a < rejN a)
  ·cases decide (rejN a > IntKind.i64.wrap (rejN a + 1))
   ·exact h2
   ·exact h1
  ·exact h1
 ·exact h1
theorem spD_near {Post : Value → Prop} (hP : Post (.bool true)) {a : Cra} {r : Int} (ho : a.1 = true) (h0 : 0 ≤ rejN a) (h1 : rejN a ≤ 65535) (h2 : rejN a ≤ r) (h3 : r ≤ rejN a + 1) : spD Post a (setR a r) := by
 have e2 : Post (.bool (eqCra Tryz.prog a (setR (setR a r) (rejN a)))) := by
  have : Post (.bool (eqCra Tryz.prog a a)) := by rw [eqCra_self]; exact hP
  exact this
 have hr : rejN (setR a r) = r := rfl
 have hw : IntKind.i64.wrap (rejN a + 1) = rejN a + 1 := by
  rw [IntKind.wrap_i64]
  omega
 unfold spD
 rw [show (setR a r).1 = true from ho, hr, hw, decide_eq_false (by omega), decide_eq_false (by omega)]
 exact e2
theorem sp_fin {F : Fs} (hF : FsIs F) {c : Cra} (hI : CInv c) {T : ByteArray} (hz : T.size ≤ 5000) (hb : ((scanL T.data.toList).1 = [] ∧ (scanL T.data.toList).2.1 = []) ∧ 0 < (scanL T.data.toList).2.2) {Post : Value → Prop} (hP : Post (.bool true)) (n cp : Nat) (t : Int) :
    StepOk (leftC c noBytes, t, noBytes) ∧ vif (stays (leftC c noBytes) t) (spC2 F n cp T Post (leftC c noBytes) t (leftC c noBytes)) (spC2 F n cp T Post (leftC c noBytes) t (stepF F (leftC c noBytes) t noBytes).1) := by
 have hI0 : CInv (leftC c noBytes) := ⟨hI.t, hI.p, hI.off, hI.ak⟩
 have s0 : StepOk (leftC c noBytes, t, noBytes) := ⟨hI0, by show 0 + 0 ≤ 5000; omega⟩
 have s1 : StepOk (leftC c noBytes, t, T) := ⟨hI0, by show 0 + T.size ≤ 5000; omega⟩
 refine ⟨s0, ?_⟩
 unfold spC2
 cases hs : stays (leftC c noBytes) t
 ·refine ⟨rfl, rfl, rfl, s1, ?_⟩
  obtain ⟨e1, e2⟩ := step_bare hF (c := leftC c noBytes) rfl hs T hb.1 hb.2
  have ho := (took hF hI0 noBytes hs).1.on
  have r0 : 0 ≤ rejN c := hI.ak.r0
  have r1 : rejN c ≤ 65535 := hI.ak.r1
  have e2 : rejN (stepF F (leftC c noBytes) t noBytes).1 = rejN c := e2
  have hr : rejN c ≤ rejW (rejN c) ∧ rejW (rejN c) ≤ rejN c + 1 := by
   unfold rejW
   split
   ·omega
   ·rw [IntKind.wrap_i64]
    omega
  show spD Post _ _
  rw [e1]
  exact spD_near hP ho (by rw [e2]; exact r0) (by rw [e2]; exact r1) (by rw [e2]; exact hr.1) (by rw [e2]; exact hr.2)
 ·exact ⟨rfl, rfl, rfl, s1, spD_self hP _⟩
set_option maxRecDepth 100000 in
theorem sp_run {F : Fs} (hF : FsIs F) {n cp : Nat} {f : Nat → UInt8} {T : ByteArray} {ao : Option Addr} {nn cap : Nat} {L : Nat → Int × ByteArray} {sl : Value} (h0 : 1 ≤ n) (hn : n ≤ 1000) (hnn : nn ≤ 1000000) (hp : ptrOk 1 sl = true) (hz : remS L 0 nn ≤ 3000) (hT : T.size ≤ 5000) (hb : Bare n f → ((scanL T.data.toList).1 = [] ∧ (scanL T.data.toList).2.1 = []) ∧ 0 < (scanL T.data.toList).2.2) (t : Int) (d : Nat → Value) :
    swpO Tryz.prog (spT F hF) (fun _ => []) (n + nn + 2) (spO F hF n cp f T ao nn cap L sl) (.seq (spX Tryz.prog) (spR Tryz.prog)) (retQ Tryz.prog (fnOf Tryz.prog 3) (fun v _ => v = .bool true)) (spF0 n cp 1 d) (spM t ao nn cap) := by
 refine Eq.mpr (sp_in F hF n cp f T ao nn cap L sl (n + nn + 2) _ _ _) ?_
 obtain ⟨Post, hPost⟩ : ∃ Post : Value → Prop, Post = fun v => v = .bool true := ⟨_, rfl⟩
 have hP : Post (.bool true) := by rw [hPost]
 rw [show (fun (v : Value) (_ : Xm) => v = .bool true) = (fun v _ => Post v) by rw [hPost]]
 clear hPost
 have e := retOf_sp (P := Tryz.prog) (fn := fnOf Tryz.prog 3) (Post := Post) (Q := blkQ 0 (seqQ (swpO Tryz.prog (spT F hF) (fun _ => []) (n + nn + 2) (spO F hF n cp f T ao nn cap L sl) (spR Tryz.prog) (retQ Tryz.prog (fnOf Tryz.prog 3) (fun v _ => Post v))) (retQ Tryz.prog (fnOf Tryz.prog 3) (fun v _ => Post v)))) (fun _ _ => rfl)
 rw [← e]
 refine sp_bytes (fun i d Q => sp_byte F hF n cp f T ao nn cap L sl (n + nn + 2) i t d Post Q) hn hP _ (fun hB i d => ?_) (n - 1) 1 _ (by omega) (by omega) (fun j h1 h2 => by omega) d
 refine Eq.mpr (sp_mid F hF n cp f T ao nn cap L sl (n + nn + 2) i t d _) ⟨rfl, ⟨_, rfl⟩, rfl, rfl, (Bool.and_true _).trans (ptrOk_le hp (by decide)), fun d => ?_⟩
 refine Eq.mpr (sp_in2 F hF n cp f T ao nn cap L sl (n + nn + 2) _ _ _) ?_
 refine sp_steps hF (fun t' m i d c Q => sp_round F hF n cp f T ao nn cap L sl (n + nn + 2) t t' m i d c Q) hnn hp _ (fun t' i d c hI => ?_) nn 0 _ (by omega) (by omega) t d zeroCra CInv.zero (by show 0 + _ ≤ 3000; omega)
 exact Eq.mpr (sp_end F hF n cp f T ao nn cap L sl (n + nn + 2) t t' nn i d c Post) (sp_fin hF hI hT (hb hB) hP n cp _)
end Go.Proofs.YteeohbiaclojaaaGreatDoor
namespace Go.Proofs.YteeohbiaclojaaaGreatDoor
open Go.RowKit
set_option maxRecDepth 100000 in
theorem sp_ov {F : Fs} {hF : FsIs F} {n cp : Nat} {f : Nat → UInt8} {T : ByteArray} {ao : Option Addr} {nn cap : Nat} {L : Nat → Int × ByteArray} {sl : Value} {bs : List Nat} {w0 : World} {B P0 Bb : Nat} (hr : Recs w0 B ao nn cap L sl) (hB : B ∉ bs) (hy : Byt w0 Bb n f) (hBb : Bb ∉ bs) (hT : ∀ w : World, w.heap[Bb]? = w0.heap[Bb]? → (convert 32 9 (.slice (some ⟨Bb, 0, none⟩) n cp)).run Tryz.prog w = .ok (.string T) w) :
    OvOk Tryz.prog (spO F hF n cp f T ao nn cap L sl) bs w0 [] [some B, some P0, some Bb] (.seq (spX Tryz.prog) (spR Tryz.prog)) := by
 refine ovOk_by (ns := [(12, #[(opOf Tryz.prog 3 12 0), (opOf Tryz.prog 3 12 1), (opOf Tryz.prog 3 12 2), (opOf Tryz.prog 3 12 3)], false), (14, #[(opOf Tryz.prog 3 14 0), (opOf Tryz.prog 3 14 1), (opOf Tryz.prog 3 14 2), (opOf Tryz.prog 3 14 3), (opOf Tryz.prog 3 14 4)], false), (13, opsOf Tryz.prog 3 13, false), (18, #[(opOf Tryz.prog 3 18 0), (opOf Tryz.prog 3 18 1), (opOf Tryz.prog 3 18 2), (opOf Tryz.prog 3 18 3)], false), (20, #[(opOf Tryz.prog 3 20 0), (opOf Tryz.prog 3 20 1), (opOf Tryz.prog 3 20 2), (opOf Tryz.prog 3 20 3)], false), (23, opsOf Tryz.prog 3 23, false), (27, opsOf Tryz.prog 3 27, false)]) (by kernel_rfl) ?_
 intro r hr'
 rcases List.mem_cons.1 hr' with rfl | hr'
 ·intro R hR K Q bl vt m a w1 h r hK
  cases hR
  exact eLen_sound (B := Bb) (tS := 32) (tB := 5) (tI := 3) rfl (by kernel_rfl) rfl ⟨by kernel_rfl, by kernel_rfl, by kernel_rfl⟩ ⟨by kernel_rfl, by kernel_rfl, by kernel_rfl⟩ ⟨by kernel_rfl, by kernel_rfl, by kernel_rfl⟩ ⟨by kernel_rfl, by kernel_rfl, by kernel_rfl⟩ h r hK
 rcases List.mem_cons.1 hr' with rfl | hr'
 ·intro R hR K Q bl vt m a w1 h r hK
  cases hR
  exact eByt_sound (B := Bb) (tS := 32) (tB := 5) rfl hy hBb (by kernel_rfl) (by kernel_rfl) (by kernel_rfl) rfl ⟨by kernel_rfl, by kernel_rfl, by kernel_rfl⟩ ⟨by kernel_rfl, by kernel_rfl, by kernel_rfl⟩ ⟨by kernel_rfl, by kernel_rfl, by kernel_rfl⟩ ⟨by kernel_rfl, by kernel_rfl, by kernel_rfl⟩ ⟨by kernel_rfl, by kernel_rfl, by kernel_rfl⟩ h r hK
 rcases List.mem_cons.1 hr' with rfl | hr'
 ·intro R hR K Q bl vt m a w1 h r hK
  cases hR
  exact cutBy_sound xmixA (show 3 ≤ 3 by decide) h r hK
 rcases List.mem_cons.1 hr' with rfl | hr'
 ·intro R hR K Q bl vt m a w1 h r hK
  cases hR
  refine eSl_sound (by decide) (by decide) (by decide) (by decide) (B := B) (K := forget spK 142 4 K) (tP := 24) (tS := 22) (tE := 52) rfl hr (by kernel_rfl) (by kernel_rfl) (by kernel_rfl) rfl ⟨by kernel_rfl, by kernel_rfl, by kernel_rfl⟩ ⟨by kernel_rfl, by kernel_rfl, by kernel_rfl⟩ ⟨by kernel_rfl, by kernel_rfl, by kernel_rfl⟩ ⟨by kernel_rfl, by kernel_rfl, by kernel_rfl⟩ h r (fun bl vt m a w hk hrl => ?_)
  obtain ⟨bl', vt', m', k1, k2⟩ := hrl.cut (show 3 ≤ 4 by decide) hk
  exact hK bl' vt' m' a w k1 k2
 rcases List.mem_cons.1 hr' with rfl | hr'
 ·intro R hR K Q bl vt m a w1 h r hK
  cases hR
  exact eRec_sound (by decide) (by decide) (by decide) (by decide) (B := B) (tS := 22) (tR := 52) (z := .agg #[.int .i64 0, .string ⟨#[]⟩]) rfl hr (by kernel_rfl) (by kernel_rfl) (by kernel_rfl) (by kernel_rfl) rfl rfl ⟨by kernel_rfl, by kernel_rfl, by kernel_rfl⟩ ⟨by kernel_rfl, by kernel_rfl, by kernel_rfl⟩ ⟨by kernel_rfl, by kernel_rfl, by kernel_rfl⟩ ⟨by kernel_rfl, by kernel_rfl, by kernel_rfl⟩ h r hK hB
 rcases List.mem_cons.1 hr' with rfl | hr'
 ·intro R hR K Q bl vt m a w1 h r hK
  cases hR
  exact cutBy_sound xmixA (show 3 ≤ 4 by decide) h r hK
 rcases List.mem_cons.1 hr' with rfl | hr'
 ·intro R hR K Q bl vt m a w1 h r hK
  cases hR
  exact eCon_sound (B := Bb) (tC := 50) (tS := 9) (tB := 32) (o0 := opOf Tryz.prog 3 27 0) (o1 := opOf Tryz.prog 3 27 1) (o2 := opOf Tryz.prog 3 27 2) (o3 := opOf Tryz.prog 3 27 3) rfl rfl hT hy.lies hBb (by kernel_rfl) (by kernel_rfl) (by kernel_rfl) (by kernel_rfl) (by kernel_rfl) (by kernel_rfl) ⟨by kernel_rfl, by kernel_rfl, by kernel_rfl⟩ ⟨by kernel_rfl, by kernel_rfl, by kernel_rfl⟩ ⟨by kernel_rfl, by kernel_rfl, by kernel_rfl⟩ ⟨by kernel_rfl, by kernel_rfl, by kernel_rfl⟩ h r hK
 ·cases hr'
end Go.Proofs.YteeohbiaclojaaaGreatDoor
namespace Go.Proofs.YteeohbiaclojaaaGreatDoor
open Go.RowKit
theorem to_bytesS (w : World) (s : ByteArray) : ∃ (V : World) (c : Nat), (convert 9 32 (.string s)).run Tryz.prog w = .ok (.slice (some ⟨w.heap.size, 0, none⟩) s.size c) V ∧
    (∀ j (h : j < s.size), V.cell? ⟨w.heap.size, j, none⟩ = some (.int .u8 ((s[j]'h).toNat : Nat)) ∧ V.frozen? ⟨w.heap.size, j, none⟩ = false) ∧ Below w.heap.size w V ∧ w.heap.size < V.heap.size := by
 refine ⟨Lib.bytesWorld w 5 s, grownCap w s.size 0 5, Lib.run_convert_string_bytes w 9 32 5 s Tryz.underlying9 Tryz.underlying32 Tryz.underlying5, fun j h => ⟨?_, ?_⟩, ⟨rfl, rfl, rfl, ?_, fun k hk => Lib.bytesWorld_at_old w _ s k hk⟩, ?_⟩
 ·rw [Lib.bytesWorld_cell w _ s j h, getD_of h]
 ·have hs : (Lib.bytesCells w 5 s).size = grownCap w s.size 0 5 := by
   have := grownCap_ge w s.size 0 5
   simp [Lib.bytesCells]
   omega
  have := grownCap_ge w s.size 0 5
  simp [World.frozen?, Lib.bytesWorld_at_new, hs]
  omega
 ·rw [Lib.bytesWorld_size]; omega
 ·rw [Lib.bytesWorld_size]; omega
theorem turn_sp (w2 : World) (b : UInt8) (d s : ByteArray) (a : Int) (q : Nat) (hd : d.size ≤ 64) (hs : s.data.toList = wrapL b d.data.toList) (hq : q < 256) (hq0 : q ≠ 0) : ∃ (T : ByteArray) (V : World) (c : Nat) (m : Int) (J x y : Nat) (f : Nat → UInt8), Below w2.heap.size w2 V ∧ w2.heap.size < V.heap.size ∧ 5 ≤ s.size ∧ s.size ≤ 69 ∧
    (convert 9 32 (.string s)).run Tryz.prog w2 = .ok (.slice (some ⟨w2.heap.size, 0, none⟩) s.size c) V ∧ a.tmod (s.size : Int) = m ∧ -(s.size : Int) < m ∧ m < (s.size : Int) ∧ (m + (s.size : Int)).tmod (s.size : Int) = (J : Int) ∧ J < s.size ∧
    V.cell? ⟨w2.heap.size, J, none⟩ = some (.int .u8 (x : Nat)) ∧ V.frozen? ⟨w2.heap.size, J, none⟩ = false ∧ bits .xor .u8 (x : Int) (q : Int) = (y : Int) ∧
    (∀ j, j < s.size → (V.setCell ⟨w2.heap.size, J, none⟩ (.int .u8 (y : Int))).cell? ⟨w2.heap.size, j, none⟩ = some (.int .u8 ((f j).toNat : Nat))) ∧
    (∀ W : World, (∀ j, j < s.size → W.cell? ⟨w2.heap.size, j, none⟩ = some (.int .u8 ((f j).toNat : Nat))) → (convert 32 9 (.slice (some ⟨w2.heap.size, 0, none⟩) s.size c)).run Tryz.prog W = .ok (.string T) W) ∧
    T.size ≤ 5000 ∧ (J ≠ 2 → Bare s.size f → ((scanL T.data.toList).1 = [] ∧ (scanL T.data.toList).2.1 = []) ∧ 0 < (scanL T.data.toList).2.2) := by
 have hz : s.size = d.size + 5 := by rw [Lib.size_eq, hs, wrapL_length, ← Lib.size_eq]
 obtain ⟨V, c, hcv, hV, hbV, hltV⟩ := to_bytesS w2 s
 have hn : (0 : Int) < (s.size : Int) := by omega
 have m1 : (a.tmod (s.size : Int)).natAbs < s.size := by
  have := Int.natAbs_tmod a (s.size : Int)
  have := Nat.mod_lt a.natAbs (show 0 < (s.size : Int).natAbs by omega)
  omega
 have j0 : 0 ≤ (a.tmod (s.size : Int) + (s.size : Int)).tmod (s.size : Int) := Int.tmod_nonneg _ (by omega)
 have j1 : (a.tmod (s.size : Int) + (s.size : Int)).tmod (s.size : Int) < (s.size : Int) := Int.tmod_lt_of_pos _ hn
 have hJl : ((a.tmod (s.size : Int) + (s.size : Int)).tmod (s.size : Int)).toNat < s.size := by omega
 obtain ⟨J, hJ⟩ : ∃ J, J = ((a.tmod (s.size : Int) + (s.size : Int)).tmod (s.size : Int)).toNat := ⟨_, rfl⟩
 rw [← hJ] at hJl
 have hx8 := (s[J]'hJl).toNat_lt
 have hxq : (s[J]'hJl).toNat ^^^ q < 256 := Nat.xor_lt_two_pow (n := 8) hx8 hq
 obtain ⟨y, hy'⟩ : ∃ y, y = UInt8.ofNat ((s[J]'hJl).toNat ^^^ q) := ⟨_, rfl⟩
 have hy : y.toNat = (s[J]'hJl).toNat ^^^ q := by rw [hy']; exact ofNat_toNat hxq
 have hne : y ≠ s[J]'hJl := fun e => by
  have e := congrArg UInt8.toNat e
  rw [hy] at e
  have e' : (s[J]'hJl).toNat ^^^ q = (s[J]'hJl).toNat ^^^ 0 := by rw [e, Nat.xor_zero]
  exact hq0 (xor_cancel_left e')
 obtain ⟨l, hl⟩ : ∃ l, l = s.data.toList.set J y := ⟨_, rfl⟩
 have hll : l.length = s.size := by rw [hl, List.length_set]; rfl
 have cells : ∀ j, j < s.size → (V.setCell ⟨w2.heap.size, J, none⟩ (.int .u8 (y.toNat : Int))).cell? ⟨w2.heap.size, j, none⟩ = some (.int .u8 ((l.getD j 0).toNat : Nat)) := fun j hj => by
  have hg : l.getD j 0 = l[j]'(by omega) := by rw [List.getD_eq_getElem?_getD, List.getElem?_eq_getElem (by omega)]; rfl
  rw [hg]
  subst hl
  by_cases e : j = J
  ·subst e
   rw [List.getElem_set_self]
   exact World.cell?_setCell_same _ _ _ (hV j hj).1
  ·rw [List.getElem_set_ne (by omega), World.cell?_setCell_other _ _ _ _ (fun k => e (congrArg Addr.off k).symm)]
   exact (hV j hj).1
 refine ⟨⟨l.toArray⟩, V, c, _, J, (s[J]'hJl).toNat, y.toNat, fun j => l.getD j 0, hbV, hltV, by omega, by omega, hcv, rfl, by omega, by omega, by omega, hJl, (hV J hJl).1, (hV J hJl).2, by rw [hy]; exact u8_xor_nat _ q hx8 hq, cells, fun W hW => ?_, ?_, fun h2 hb => ?_⟩
 ·have := run_convert_bytes_back (P := Tryz.prog) W 32 9 5 ⟨w2.heap.size, 0, none⟩ c l Tryz.underlying32 Tryz.underlying5 Tryz.underlying9 (fun i hi => by
   rw [show (⟨w2.heap.size, 0, none⟩ : Addr).add i = ⟨w2.heap.size, i, none⟩ by unfold Addr.add; split <;> simp_all, hW i (by omega)]
   show some (Value.int .u8 (((l.getD i 0).toNat : Nat) : Int)) = _
   rw [List.getD_eq_getElem?_getD, List.getElem?_eq_getElem hi]
   rfl)
  rw [hll] at this
  exact this
 ·show l.length ≤ 5000
  omega
 ·have hj : J < (wrapL b d.data.toList).length := by rw [← hs]; exact hJl
  have he : y ≠ (wrapL b d.data.toList)[J]'hj := by
   have e : (wrapL b d.data.toList)[J]'hj = s[J]'hJl := by
    have : s[J]'hJl = s.data.toList[J]'hJl := rfl
    rw [this]
    simp only [hs]
   rw [e]
   exact hne
  have hsc := spoilt_scan (k := b) (y := y) (d := d.data.toList) (j := J) (by rw [← Lib.size_eq]; exact hd) hj he h2 (fun x hx => by
   obtain ⟨i, hi, rfl⟩ := List.getElem_of_mem hx
   rw [List.getElem_drop]
   rw [List.length_drop, List.length_set, ← hs] at hi
   have hi' : 1 + i < s.size := by show 1 + i < s.data.toList.length; omega
   have hb1 := hb (1 + i) (by omega) hi'
   intro e
   apply hb1
   show (((l.getD (1 + i) 0).toNat : Nat) : Int) = 165
   rw [List.getD_eq_getElem?_getD, List.getElem?_eq_getElem (by omega)]
   subst hl
   simp only [hs, Option.getD_some]
   rw [e]
   rfl)
  have e : (⟨l.toArray⟩ : ByteArray).data.toList = (wrapL b d.data.toList).set J y := by
   show l.toArray.toList = _
   rw [hl, hs]
  rw [e, hsc]
  exact ⟨⟨rfl, rfl⟩, by show 0 < d.data.toList.length + 5; omega⟩
end Go.Proofs.YteeohbiaclojaaaGreatDoor
namespace Go.Proofs.YteeohbiaclojaaaGreatDoor
open Go.RowKit
set_option maxRecDepth 100000
set_option maxHeartbeats 20000000
theorem dim_self (bl : Bl) (v : Value) : RV bl (dimv v) v := by cases v <;> rfl
theorem lookup_mem {j : Nat} {v : Value} : ∀ {ks : List (Nat × Value)}, ks.lookup j = some v → (j, v) ∈ ks
 | [], h => by cases h
 | (i, u) :: ks, h => by
  by_cases e : j = i
  ·subst e
   simp only [List.lookup, beq_self_eq_true] at h
   cases h
   exact List.mem_cons_self
  ·have e' : (j == i) = false := by simpa using e
   simp only [List.lookup, e'] at h
   exact List.mem_cons_of_mem _ (lookup_mem h)
theorem fr_of {bl : Bl} {tm : Array Value} {N : Nat} {ks : List (Nat × Value)} (hl : tm.size = N) (h : ∀ p ∈ ks, RV bl p.2 (tm.getD p.1 undef)) : FR bl (frm ks (fun j => tm.getD j undef) N) tm := by
 refine ⟨by unfold frm; simp [hl], fun t => ?_⟩
 unfold frm
 by_cases ht : t < N
 ·rw [List.getD_eq_getElem?_getD, List.getElem?_map, List.getElem?_range ht]
  simp only [Option.map_some, Option.getD_some]
  split
  ·rename_i v hv
   exact h _ (lookup_mem hv)
  ·exact dim_self bl _
 ·rw [List.getD_eq_getElem?_getD, List.getElem?_eq_none (by simp; omega), Array.getD_eq_getD_getElem?, Array.getElem?_eq_none (by omega)]
  exact .same rfl
section
variable {P : Program} {tbl : List (Ct P)} {bs : List Nat} {w0 : World} {ds : List Deferred} {dirty : Nat → List Nat} {n N : Nat} {bl : Bl} {ov : Ov}
theorem stands_block {id : Nat} {Q : VQ} {Q' : Exit → Act → World → Prop} (hQ : Stands bs w0 ds bl Q Q') : Stands bs w0 ds bl (blkQ id Q) (Exit.inBlock id Q') := by
 intro e bl' vt' m' a' w' h' r'
 cases e with
 | exit id' =>
  unfold blkQ at h'
  dsimp only at h'
  unfold Exit.inBlock
  dsimp only
  split at h'
  ·rename_i e
   rw [if_pos e]
   exact hQ _ bl' vt' m' a' w' h' r'
  ·rename_i e
   rw [if_neg e]
   exact hQ _ bl' vt' m' a' w' h' r'
 | normal => exact hQ _ bl' vt' m' a' w' h' r'
 | goto l => exact hQ _ bl' vt' m' a' w' h' r'
 | ret => exact hQ _ bl' vt' m' a' w' h' r'
 | panic ch => exact hQ _ bl' vt' m' a' w' h' r'
 | outgrown => exact hQ _ bl' vt' m' a' w' h' r'
theorem swpO_from {ks : List (Nat × Value)} (hm : P.follows .mixedOrders = true) {x y lp : Code} {id : Nat} (ex : x = .block id lp) {Q : VQ} {Q' : Exit → Act → World → Prop} {K : Act → World → Prop} {m : Xm} {a : Act} {w : World} (hx : OvOk P ov bs w0 ds bl x) (hy : OvOk P ov bs w0 ds bl y) (hQ : Stands bs w0 ds bl Q Q')
    (h : ∀ d, swpO P tbl dirty n ov (.seq x y) Q (frm ks d N) m) (hl : a.tmps.size = N) (hks : ∀ p ∈ ks, RV bl p.2 (a.tmps.getD p.1 undef)) (R : RW bs w0 bl m w) (hlen : bl.length = m.length) (hd : a.defers = ds) (hK : ∀ a w, y.wp P Q' a w → K a w) : lp.wp P (Exit.inBlock id (Exit.then K Q')) a w := by
 subst ex
 refine swpO_sound (tbl := tbl) (dirty := dirty) (n := n) hm lp (blkQ id (seqQ (swpO P tbl dirty n ov y Q) Q)) _ bl _ m a w hx (stands_block ?_) (h _) ⟨fr_of hl hks, R, Le.refl _, hlen, hd⟩
 intro e bl' vt' m' a' w' h' r'
 cases e with
 | normal => exact hK _ _ (swpO_sound hm y Q Q' bl' vt' m' a' w' hy hQ h' r')
 | exit id => exact hQ _ bl' vt' m' a' w' h' r'
 | goto l => exact hQ _ bl' vt' m' a' w' h' r'
 | ret => exact hQ _ bl' vt' m' a' w' h' r'
 | panic ch => exact hQ _ bl' vt' m' a' w' h' r'
 | outgrown => exact hQ _ bl' vt' m' a' w' h' r'
end
theorem WholeSpoilt_walk {F : Fs} (hF : FsIs F) {B : Nat} {ao : Option Addr} {nn cap : Nat} {L : Nat → Int × ByteArray} {sl : Value} (t k at_ by_ : Int) (d : ByteArray) (w : World) (hw : GW w) (hr : Recs w B ao nn cap L sl) (hn : nn ≤ 1000000000000000) (hz : ∀ i, i < nn → (L i).2.size ≤ 1000000000000000) (hby : 0 ≤ by_ ∧ by_ ≤ 255) :
    Calls Tryz.prog 3 #[.agg #[.int .i64 t, .slice ao nn cap], .agg #[.int .i64 k, .string d], .agg #[.int .i64 at_, .int .u8 by_]] w fun e w' => e = .returned (.bool true) ∧ Below w.heap.size w w' := by
 have A0 := ((Arr_at w w.heap.size [.int .i64 t, .slice ao nn cap] 24 rfl).alloc (.cells #[.int .i64 k, .string d] 26)).alloc (.cells #[.int .i64 at_, .int .u8 by_] 28)
 have B0 := (Arr_at (w.alloc (.cells #[.int .i64 t, .slice ao nn cap] 24)) (w.heap.size + 1) [.int .i64 k, .string d] 26 (by simp)).alloc (.cells #[.int .i64 at_, .int .u8 by_] 28)
 have C0 := Arr_at ((w.alloc (.cells #[.int .i64 t, .slice ao nn cap] 24)).alloc (.cells #[.int .i64 k, .string d] 26)) (w.heap.size + 2) [.int .i64 at_, .int .u8 by_] 28 (by simp)
 have K0 : Below w.heap.size w (((w.alloc (.cells #[.int .i64 t, .slice ao nn cap] 24)).alloc (.cells #[.int .i64 k, .string d] 26)).alloc (.cells #[.int .i64 at_, .int .u8 by_] 28)) := bel_al (bel_al (bel_al (Below.refl _ _) _) _) _
 have hwr : ∀ W, Calls Tryz.prog 5 #[.agg #[.int .i64 k, .string d]] W fun e w' => (∃ (s : ByteArray) (o : Bool), e = .returned (.tuple #[.string s, .bool o]) ∧ (o = true → ∃ b : UInt8, d.size ≤ 64 ∧ s.data.toList = wrapL b d.data.toList)) ∧ Below W.heap.size W w' := fun W => by
  by_cases h : 0 ≤ k ∧ k ≤ 255 ∧ d.size ≤ 64
  ·obtain ⟨b, rfl⟩ : ∃ b : UInt8, k = (b.toNat : Nat) := ⟨UInt8.ofNat k.toNat, by rw [ofNat_toNat (by omega)]; omega⟩
   refine (rwrap_yes b d W h.2.2).mono ?_
   rintro e w' ⟨s, rfl, hs, hb⟩
   exact ⟨⟨s, true, rfl, fun _ => ⟨b, h.2.2, hs⟩⟩, hb⟩
  ·refine (rwrap_no k d W h).mono ?_
   rintro e w' ⟨rfl, hb⟩
   exact ⟨⟨_, false, rfl, fun h => by cases h⟩, hb⟩
 go_enter Tryz.func3, Tryz.ntmps3
 go_wp2_with fail
 refine (lights_at hF _ (hw.below K0)).mono ?_
 rintro e X ⟨rfl, hb⟩
 have A1 := A0.below hb
 have B1 := B0.below hb
 have C1 := C0.below hb
 have K1 := K0.trans (hb.mono K0.size)
 clear A0 B0 C0 K0 hb
 have b0 : X.cell? ⟨w.heap.size + 1, 0, none⟩ = some (.int .i64 k) := B1.c 0 (zD rfl)
 have b1 : X.cell? ⟨w.heap.size + 1, 1, none⟩ = some (.string d) := B1.c 1 (zD rfl)
 go_wp2_with fail
 refine (hwr _).mono ?_
 rintro e X2 ⟨⟨s, o, rfl, hs⟩, hb⟩
 have A2 := A1.below hb
 have C2 := C1.below hb
 have K2 := K1.trans (hb.mono K1.size)
 clear A1 B1 C1 hb b0 b1 hwr
 have a0 : X2.cell? ⟨w.heap.size, 0, none⟩ = some (.int .i64 t) := A2.c 0 (zD rfl)
 have a1 : X2.cell? ⟨w.heap.size, 1, none⟩ = some (.slice ao nn cap) := A2.c 1 (zD rfl)
 go_wp2_with fail
 refine (light_at t X2 (hw.below K2) (hr.same K2) hn hz).mono ?_
 rintro e Y ⟨⟨li, rfl, hl⟩, hb⟩
 have A3 := A2.below hb
 have C3 := C2.below hb
 have K3 := K2.trans (hb.mono K2.size)
 clear A2 C2 hb a0 a1 K1 K2
 have c0 : Y.cell? ⟨w.heap.size + 2, 0, none⟩ = some (.int .i64 at_) := C3.c 0 (zD rfl)
 have c1 : Y.cell? ⟨w.heap.size + 2, 1, none⟩ = some (.int .u8 by_) := C3.c 1 (zD rfl)
 cases li
 ·cases o <;>
  ·go_wp2_with (with_reducible refine post_stop ?_)
   exact ⟨bodyPost_ret (v := .bool true) (by simp [results, Tryz.results3, go_sem]) rfl ⟨rfl, K3⟩⟩
 cases o
 ·go_wp2_with (with_reducible refine post_stop ?_)
  exact ⟨bodyPost_ret (v := .bool true) (by simp [results, Tryz.results3, go_sem]) rfl ⟨rfl, K3⟩⟩
 by_cases h0 : by_ = 0
 ·subst h0
  go_wp2_with (with_reducible refine post_stop ?_)
  exact ⟨bodyPost_ret (v := .bool true) (by simp [results, Tryz.results3, go_sem]) rfl ⟨rfl, K3⟩⟩
 have hne : (by_ == 0) = false := by simpa using h0
 obtain ⟨q, rfl⟩ : ∃ q : Nat, by_ = q := ⟨by_.toNat, by omega⟩
 obtain ⟨h30, hrem⟩ := hl rfl
 obtain ⟨b, hd, hs⟩ := hs rfl
 obtain ⟨T, V, c, m, J, x, y, f, hbV, hltV, h5, h69, hcv, hm, hm1, hm2, hJ, hJl, kJ, fJ, hx, hf, hT, hTz, hsp⟩ := turn_sp Y b d s at_ q hd hs (by omega) (by omega)
 have A4 := A3.below hbV
 have C4 := C3.below hbV
 have K4 := K3.trans (hbV.mono K3.size)
 have v0 : V.cell? ⟨w.heap.size + 2, 0, none⟩ = some (.int .i64 at_) := C4.c 0 (zD rfl)
 have v1 : V.cell? ⟨w.heap.size + 2, 1, none⟩ = some (.int .u8 (q : Nat)) := C4.c 1 (zD rfl)
 have hYB := C3.lies
 have K5 : Below w.heap.size w (V.setCell ⟨Y.heap.size, J, none⟩ (.int .u8 (y : Int))).drew := bel_drew (K4.setCell (p := ⟨Y.heap.size, J, none⟩) (by show w.heap.size ≤ Y.heap.size; omega) _)
 go_wp2_with fail
 go_region
 by_cases hJ2 : J = 2
 ·subst hJ2
  go_wp2_with (with_reducible refine post_stop ?_)
  exact ⟨bodyPost_ret (v := .bool true) (by simp [results, Tryz.results3, go_sem]) rfl ⟨rfl, K5⟩⟩
 have hJ3 : ((J : Int) == 2) = false := by simp; omega
 go_wp2_with fail
 rename_i hKK
 have A5 := (A4.new Y.heap.size J (by omega) (.int .u8 (y : Int))).drew
 have hf : ∀ j, j < s.size → (V.setCell ⟨Y.heap.size, J, none⟩ (.int .u8 (y : Int))).drew.cell? ⟨Y.heap.size, j, none⟩ = some (.int .u8 ((f j).toNat : Nat)) := hf
 have z5 : V.heap.size ≤ (V.setCell ⟨Y.heap.size, J, none⟩ (.int .u8 (y : Int))).drew.heap.size := ((Below.refl 0 V).setCell (p := ⟨Y.heap.size, J, none⟩) (Nat.zero_le _) _).size
 clear hne c0 c1 v0 v1 hx kJ fJ hJ hm hm1 hm2 hcv
 obtain ⟨W, hW⟩ : ∃ W, W = (V.setCell ⟨Y.heap.size, J, none⟩ (.int .u8 (y : Int))).drew := ⟨_, rfl⟩
 rw [← hW] at A5 K5 hf z5 ⊢
 have G5 := hw.below K5
 have r5 := hr.same K5
 have hB := hr.lies
 have hg1 : 1 < w.heap.size := hw.2.lies
 have y5 : Byt W Y.heap.size s.size f := ⟨by omega, hf⟩
 have ov := sp_ov (F := F) (hF := hF) (T := T) (cp := c) (bs := [w.heap.size]) (P0 := w.heap.size) r5 (by simp; omega) y5 (by simp; omega) (fun W' h => hT W' (fun j hj => by rw [cell_old h]; exact hf j hj))
 have R5 : RW [w.heap.size] W [some B, some w.heap.size, some Y.heap.size] (spM t ao nn cap) W := by
  refine ⟨fun i C hi => ?_, fun i j C hi hj => ?_, fun i C hi => ?_, rfl, rfl, rfl, Nat.le_refl _, fun _ _ _ => rfl, G5, fun b hb => ?_⟩
  ·match i, hi with
   | 0, hi => cases hi; exact ⟨[], rfl, fun i h => absurd h (Nat.not_lt_zero i), fun i h => absurd h (Nat.not_lt_zero i), r5.lies⟩
   | 1, hi => cases hi; exact ⟨_, rfl, A5⟩
   | 2, hi => cases hi; exact ⟨[], rfl, fun i h => absurd h (Nat.not_lt_zero i), fun i h => absurd h (Nat.not_lt_zero i), y5.lies⟩
  ·match i, j, hi, hj with
   | 0, 0, _, _ => rfl
   | 1, 1, _, _ => rfl
   | 2, 2, _, _ => rfl
   | 0, 1, hi, hj => simp at hi hj; omega
   | 0, 2, hi, hj => simp at hi hj; omega
   | 1, 0, hi, hj => simp at hi hj; omega
   | 1, 2, hi, hj => simp at hi hj; omega
   | 2, 0, hi, hj => simp at hi hj; omega
   | 2, 1, hi, hj => simp at hi hj; omega
  ·match i, hi with
   | 0, _ => exact .inr (.inr rfl)
   | 1, hi => cases hi; exact .inl List.mem_cons_self
   | 2, _ => exact .inr (.inr rfl)
  ·rw [List.mem_singleton.1 hb]
   exact hg1
 refine wp_code (c' := cpart [false] (spX Tryz.prog)) (by kernel_rfl) ?_
 refine swpO_from (P := Tryz.prog) (tbl := spT F hF) (dirty := fun _ => []) (n := s.size + nn + 2) (ks := [(3, ptr 1), (9, spS s.size c), (11, .int .i64 1)]) (N := 142) xmixA (x := spX Tryz.prog) (id := 0) (by kernel_rfl) ov.1 ov.2 (Q := retQ Tryz.prog (fnOf Tryz.prog 3) (fun v _ => v = .bool true)) (stands_fn (by kernel_rfl) (fun v bl m w' hv R' => ?_)) (fun d => sp_run hF (by omega) (by omega) (by omega) hr.ok hrem hTz (hsp hJ2) t d) ?_ (fun p hp => ?_) R5 rfl ?_ (fun a w h => hKK a w (wp_code (by kernel_rfl) h))
 ·refine ⟨by rw [hv], R'.os.trans K5.os, R'.tape.trans K5.tape, R'.output.trans K5.output, Nat.le_trans K5.size R'.size, fun i hi => (R'.block i (by have := K5.size; omega) (by simp; omega)).trans (K5.block i hi)⟩
 ·rfl
 ·simp only [List.mem_cons, List.not_mem_nil, or_false] at hp
  rcases hp with rfl | rfl | rfl
  ·exact ⟨w.heap.size, rfl, rfl⟩
  ·exact ⟨Y.heap.size, rfl, rfl⟩
  ·rfl
 ·rfl
end Go.Proofs.YteeohbiaclojaaaGreatDoor
namespace Go.Proofs.YteeohbiaclojaaaGreatDoor
open Go.ChangeShapes Go.WideShapes Go.ChangeAt Go.RowKit Go.Joins
theorem frame_cells : Tryz.prog.cellsOf 26 = 2 := by kernel_rfl
section
variable {H : Type} {enc : TypeId × Value → H} {w : World} {base : Nat} {spare : Nat → Bool} {held : Bool}
set_option maxRecDepth 100000 in
theorem open_frame {r : Reach} {b0 : Nat} {v : Value} {d : DataW H} {ps : List MemPlace} (hval : Value.okWide Tryz.prog w r b0 26 v) (hd : DataW.Trod enc Tryz.prog w base spare held 26 v d ps) :
    ∃ a : Int × ByteArray, v = .agg #[.int .i64 a.1, .string a.2] ∧ d = .agg [.lit (.int .i64 a.1), .lit (.string a.2.data.toList)] ∧ ps = [] ∧ (Lit.int .i64 a.1).wf = true ∧ a.2.size ≤ maxLen := by
 obtain ⟨c0, c1, y0, y1, m, rfl, rfl, rfl, hy0, hy1⟩ := open_agg2 Tryz.underlying26 (by kernel_rfl) frame_cells hval hd
 obtain ⟨x0, e0, rfl, w0⟩ := DataW.trod_int Tryz.underlying3 hy0
 obtain ⟨x1, e1, rfl, w1⟩ := DataW.trod_string Tryz.underlying9 hy1
 simp at e0 e1
 subst e0 e1
 exact ⟨(x0, x1), rfl, rfl, rfl, w0, w1⟩
set_option maxRecDepth 100000 in
theorem shut_frame {a : Int × ByteArray} (w0 : (Lit.int .i64 a.1).wf = true) (w1 : a.2.size ≤ maxLen) :
    DataW.Trod enc Tryz.prog w base spare held 26 (.agg #[.int .i64 a.1, .string a.2]) (.agg [.lit (.int .i64 a.1), .lit (.string a.2.data.toList)]) [] :=
 shut_agg2 (y0 := (.lit (.int .i64 a.1), [])) (y1 := (.lit (.string a.2.data.toList), [])) Tryz.underlying26 (by kernel_rfl) frame_cells ⟨1, by simp [DataW.trod, Tryz.underlying3, w0]⟩ ⟨1, by simp [DataW.trod, Tryz.underlying9, w1]⟩
end
end Go.Proofs.YteeohbiaclojaaaGreatDoor
