/-
  The laws' each: steps of a play, one behind the other, for the seat YtoadcnhcfodkgaaGreatDoor.
-/
import Derived.Test.YtoadcnhcfodkgaaGreatDoorTpB
import Derived.Test.YtoadcnhcfodkgaaGreatDoorSxQ
namespace Go.Proofs.YtoadcnhcfodkgaaGreatDoor
open Go.RowKit

/-- How much later. -/
def gapW (x : Int) : Int := if 1000000 < (if -1000000 > x then -1000000 else x) then 1000000 else (if -1000000 > x then -1000000 else x)
def exK : List Nat := [1, 5, 6, 17, 18, 16]
def exF (f : Nat) (t n i : Int) (sl : Value) (d : Nat → Value) : List Value := frm [(1, .func (.func f) #[] #[]), (5, ptr 2), (6, .int .i64 t), (17, .int .i64 n), (18, .int .i64 i), (16, sl)] d 60
def exE (f : Nat) (t n i : Int) (sl : Value) (d : Nat → Value) : List Value := vset ((exF f t n i sl d).set 19 (.bool (decide (i < n)))) (.tmp 19) false
def exM (pl : List Value) (c : Cra) : Xm := [[], pl, dCra.enc c]
section
variable (F : Fs) (hF : FsIs F) (f : Nat) (Held : Cra → Cra → Tel → ByteArray → Prop) (ao : Option Addr) (nn cap : Nat) (L : Nat → Int × ByteArray) (sl : Value)
def nxE (f : Nat) (t n i : Int) (sl : Value) (pl : List Value) (Q : VQ) (c : Cra) : Prop :=
  60 = 60 ∧ (ptrOk 3 sl && true) = true ∧ ∀ d, Q .normal (exF f t n (IntKind.i64.wrap (i + 1)) sl d) (exM pl c)
/-- A step that isn't taken. -/
def exA (f : Nat) (t n i : Int) (sl : Value) (pl : List Value) (Q : VQ) (c : Cra) : Prop :=
  ptr 4 = ptr 4 ∧ ptr 2 = ptr 2 ∧ 60 = 60 ∧ (∃ c' : Cra, some (dCra.enc c) = some (dCra.enc c') ∧ some (dCra.enc c) = some (dCra.enc c')) ∧ nxE f t n i sl pl Q c
/-- One that is. -/
def exY (f : Nat) (Held : Cra → Cra → Tel → ByteArray → Prop) (t n i a : Int) (b : ByteArray) (sl : Value) (pl : List Value) (Q : VQ) (c d : Cra) (s : ByteArray) : Prop :=
  ToldOk s ∧ Value.bool true = .bool true ∧ Value.func (.func f) #[] #[] = .func (.func f) #[] #[] ∧ ptr 2 = ptr 2 ∧ ptr 4 = ptr 4 ∧ ptr 5 = ptr 5 ∧ ptr 3 = ptr 3 ∧ 60 = 60 ∧
    ∃ (c' d' : Cra) (T : Tel) (x : Value) (b' : ByteArray), (some (dCra.enc c) = some (dCra.enc c') ∧ some (dCra.enc d) = some (dCra.enc d') ∧ some (tEnc 13 (tlT (readS s))) = some (tEnc 13 T) ∧ some [Value.int .i64 a, .string b] = some [x, .string b']) ∧ Held c' d' T b' ∧ nxE f t n i sl pl Q d
end
/-- How many bytes are still to come. -/
def remS (L : Nat → Int × ByteArray) : Nat → Nat → Nat
  | _, 0 => 0
  | i, k + 1 => (L i).2.size + remS L (i + 1) k
/-- A round, as a row. -/
def ExR (F : Fs) (f : Nat) (Held : Cra → Cra → Tel → ByteArray → Prop) (nn : Nat) (L : Nat → Int × ByteArray) (sl : Value) (G : VQ → List Value → Xm → Prop) : Prop := ∀ (t n i : Int) (d : Nat → Value) (pl : List Value) (c : Cra) (Q : VQ), G Q (exF f t n i sl d) (exM pl c) =
      vif (decide (i < n)) ((0 ≤ i ∧ i.toNat < nn) ∧ sl = sl ∧ 3 = 3 ∧ 60 = 60 ∧ StepOk (c, IntKind.i64.wrap (t + gapW (L i.toNat).1), (L i.toNat).2) ∧
        vif (stays c (IntKind.i64.wrap (t + gapW (L i.toNat).1))) (exA f (IntKind.i64.wrap (t + gapW (L i.toNat).1)) n i sl pl Q c)
          (exY f Held (IntKind.i64.wrap (t + gapW (L i.toNat).1)) n i (L i.toNat).1 (L i.toNat).2 sl pl Q c (stepF F c (IntKind.i64.wrap (t + gapW (L i.toNat).1)) (L i.toNat).2).1 (bytesOf (tlOf (telF F (stepF F c (IntKind.i64.wrap (t + gapW (L i.toNat).1)) (L i.toNat).2).1)))))
      (Q (.exit 0) (exE f t n i sl d) (exM pl c))
/-- Held of all steps that are taken, where what stays so (I) is so ahead of it; and it stays so. -/
def HeldAllI (F : Fs) (I : Cra → Prop) (Held : Cra → Cra → Tel → ByteArray → Prop) : Prop := ∀ c t b, CInv c → I c → c.2.2.1.size + b.size ≤ 5000 → stays c t = false → Took F c t b (stepF F c t b).1 → Held c (stepF F c t b).1 (telF F (stepF F c t b).1) b ∧ I (stepF F c t b).1
/-- Held of all steps that are taken. -/
def HeldAll (F : Fs) (Held : Cra → Cra → Tel → ByteArray → Prop) : Prop := ∀ c t b, CInv c → c.2.2.1.size + b.size ≤ 5000 → stays c t = false → Took F c t b (stepF F c t b).1 → Held c (stepF F c t b).1 (telF F (stepF F c t b).1) b
theorem took_left {F : Fs} {c d : Cra} {t : Int} {b : ByteArray} (h : Took F c t b d) : d.2.2.1.size ≤ c.2.2.1.size + b.size := by
  rw [h.left]
  refine Nat.le_trans (rest_size _) ?_
  show (c.2.2.1 ++ b).size ≤ _
  rw [ByteArray.size_append]
  exact Nat.le_refl _
theorem ex_loop {F : Fs} (hF : FsIs F) {f : Nat} {Held : Cra → Cra → Tel → ByteArray → Prop} {nn : Nat} {L : Nat → Int × ByteArray} {sl : Value} {G : VQ → List Value → Xm → Prop} (hG : ExR F f Held nn L sl G) (hn : nn ≤ 1000000) (hp : ptrOk 1 sl = true) {I : Cra → Prop} (hH : HeldAllI F I Held) (Q : VQ) (pl : List Value)
    (hQ : ∀ t i d c, Q (.exit 0) (exE f t nn i sl d) (exM pl c)) (k : Nat) : ∀ (i : Nat), i + k = nn → ∀ (t : Int) (d : Nat → Value) (c : Cra), CInv c → I c → c.2.2.1.size + remS L i k ≤ 3000 → loopN (k + 1) G Q (exF f t nn i sl d) (exM pl c) := by
  have hp3 : ptrOk 3 sl = true := by
    match sl, hp with
    | .pointer (some a), hp => exact decide_eq_true (by have := of_decide_eq_true hp; omega)
    | .slice (some a) _ _, hp => exact decide_eq_true (by have := of_decide_eq_true hp; omega)
    | .slice none _ _, _ => rfl
    | .pointer none, _ => rfl
    | .bool _, _ => rfl
    | .int _ _, _ => rfl
    | .float _ _, _ => rfl
    | .complex _ _ _, _ => rfl
    | .string _, _ => rfl
    | .map _, _ => rfl
    | .chan _, _ => rfl
    | .func _ _ _, _ => rfl
    | .nilFunc, _ => rfl
    | .nilIface, _ => rfl
    | .iface _ _, _ => rfl
    | .agg _, _ => rfl
    | .tuple _, _ => rfl
  induction k with
  | zero =>
    intro i e t d c _ _ _
    rw [loopN, hG, decide_eq_false (by omega)]
    exact hQ _ _ _ _
  | succ k ih =>
    intro i e t d c hi hI hz
    have hz : c.2.2.1.size + ((L i).2.size + remS L (i + 1) k) ≤ 3000 := hz
    rw [loopN, hG, decide_eq_true (by omega), Int.toNat_natCast]
    have hw : IntKind.i64.wrap ((i : Int) + 1) = ((i + 1 : Nat) : Int) := by
      rw [IntKind.wrap_i64]
      omega
    generalize IntKind.i64.wrap (t + gapW (L i).1) = t'
    refine ⟨⟨by omega, by omega⟩, rfl, rfl, rfl, ⟨hi, by show c.2.2.1.size + (L i).2.size ≤ 5000; omega⟩, ?_⟩
    cases hs : stays c t'
    · have hk := took hF hi (L i).2 hs
      have hl := took_left hk.1
      have hh := hH c t' (L i).2 hi hI (by omega) hs hk.1
      have hto : tlOk (tlOf (telF F (stepF F c t' (L i).2).1)) = true := tel_ok F hk.1.inv
      refine ⟨⟨_, hto, rfl⟩, rfl, rfl, rfl, rfl, rfl, rfl, rfl, c, _, _, _, _, ⟨rfl, rfl, rfl, rfl⟩, ?_, rfl, by rw [hp3]; rfl, fun d => ?_⟩
      · rw [readS_of hto, tlT_of]
        exact hh.1
      · rw [hw]
        exact ih (i + 1) (by omega) t' d _ hk.1.inv hh.2 (by omega)
    · refine ⟨rfl, rfl, rfl, ⟨c, rfl, rfl⟩, rfl, by rw [hp3]; rfl, fun d => ?_⟩
      rw [hw]
      exact ih (i + 1) (by omega) t' d c hi hI (by omega)
end Go.Proofs.YtoadcnhcfodkgaaGreatDoor
