/-
A part.
A part.
A part.
A part.
A part.
A part.
A part.
A part.
A part.
-/
import Derived.Deep.RegionWith
import Derived.Test.YtbophanlmkbfeaaGreatDoorHE10
import Derived.Test.YtbophanlmkbfeaaGreatDoorHE18
import Derived.Test.YtbophanlmkbfeaaGreatDoorHE20
import Derived.Test.YtbophanlmkbfeaaGreatDoorHE16
import Derived.Test.YtbophanlmkbfeaaGreatDoorHE01
namespace Go.Proofs.YtbophanlmkbfeaaGreatDoor
open Go.RowKit
def predCt (P : Program) (fn : Nat) {A : Type} (d : Dl A) (S : A → (Value → Prop) → Prop) (mono : ∀ x K K', (∀ v, K v → K' v) → S x K → S x K') (go : ∀ (args : Array Value) (w : World), (callFunc fn args).run P w = .ok (.enter fn args) w)
    (h : ∀ x w, GW w → ∀ K, S x K → Calls P fn (d.enc x).toArray w fun e w' => ∃ v, e = .returned v ∧ isP v = false ∧ K v ∧ Below w.heap.size w w') : Ct P where
 fn := fn
 sp := fun args m K => match d.dec args with
  | some x => S x (fun v => K v m)
  | none => False
 go := go
 mono := fun hK hs => by
  split at hs
  ·exact mono _ _ _ (fun v hv => hK v _ hv) hs
  ·exact hs
 keep := fun {args m K} hs => by
  split at hs
  ·exact mono _ _ _ (fun v hv => ⟨hv, rfl, fun _ _ => rfl⟩) hs
  ·exact hs
 ok := fun {bs w0 bl m w args args' K} R hlen hv hs => by
  split at hs
  ·rename_i x hd
   have hl := d.law _ _ hd
   rw [args_same hlen hv (by rw [hl]; exact d.np x), hl]
   refine Calls.mono (h x w R.gwAt _ hs) ?_
   rintro e w' ⟨v, rfl, hp, hk, Kp⟩
   exact ⟨_, _, _, rfl, .same hp, hk, R.pure Kp⟩
  ·exact hs.elim
def Pla (s : ByteArray) (i : Int) : Prop := 0 ≤ i ∧ i < 100 ∧ 2 * i.toNat + 1 < s.size
def sgnCt : Ct Tryz.prog := predCt Tryz.prog 225 (then' cS (lone' cI)) (fun x K => Pla x.1 x.2 ∧ K (.int .i64 (sg (cnt x.1 (2 * x.2.toNat))))) (fun _ _ _ hK hs => ⟨hs.1, hK _ hs.2⟩) (go_of Tryz.func225 (by kernel_rfl) (by kernel_rfl))
 (fun x w _ K hs => Calls.mono (ssigned_any x.1 x.2 x.2.toNat w (by have := hs.1.1; omega) hs.1.2.2 (by have := hs.1.2.1; omega)) (by rintro e w' ⟨rfl, hb⟩; exact ⟨_, rfl, rfl, hs.2, hb⟩))
def plnCt : Ct Tryz.prog := predCt Tryz.prog 226 (then' cS (lone' cI)) (fun x K => Pla x.1 x.2 ∧ K (.int .i64 (cnt x.1 (2 * x.2.toNat) : Nat))) (fun _ _ _ hK hs => ⟨hs.1, hK _ hs.2⟩) (go_of Tryz.func226 (by kernel_rfl) (by kernel_rfl))
 (fun x w _ K hs => Calls.mono (splain_any x.1 x.2 x.2.toNat w (by have := hs.1.1; omega) hs.1.2.2 (by have := hs.1.2.1; omega)) (by rintro e w' ⟨rfl, hb⟩; exact ⟨_, rfl, rfl, hs.2, hb⟩))
def normCt : Ct Tryz.prog := flowCt Tryz.prog 53 (lone' (cT 3)) (fun bad x => vNormS bad (x.1, x.2.1, x.2.2.1)) cI (go_of Tryz.func53 (by kernel_rfl) (by kernel_rfl)) (fun b bad x w _ _ hw => vNorm_any b bad (x.1, x.2.1, x.2.2.1) w hw)
def unitCt : Ct Tryz.prog := flowCt Tryz.prog 188 (lone' (cT 3)) (fun bad x => (((vUnitS bad (x.1, x.2.1, x.2.2.1)).1.1, (vUnitS bad (x.1, x.2.1, x.2.2.1)).1.2.1, (vUnitS bad (x.1, x.2.1, x.2.2.1)).1.2.2, ()), (vUnitS bad (x.1, x.2.1, x.2.2.1)).2)) (cT 3) (go_of Tryz.func188 (by kernel_rfl) (by kernel_rfl)) (fun b bad x w _ _ hw => vUnit_any b bad (x.1, x.2.1, x.2.2.1) w hw)
def v3T (v : V3) : Tup 3 := (v.1, v.2.1, v.2.2, ())
abbrev kSaid : Dc (Tup 3 × Bool) := two' (cT 3) cB
def ratT (s : ByteArray) (i : Int) (A C : Prop) : Prop := Pla s i ∧ vif (decide (sg (cnt s (2 * i.toNat)) > 30000)) A (vif (decide (sg (cnt s (2 * i.toNat)) < -30000)) A C)
theorem ratT_of {s : ByteArray} {i : Int} {A C : Prop} (hp : Pla s i) (hA : ¬ (-30000 ≤ sg (cnt s (2 * i.toNat)) ∧ sg (cnt s (2 * i.toNat)) ≤ 30000) → A) (hC : -30000 ≤ sg (cnt s (2 * i.toNat)) ∧ sg (cnt s (2 * i.toNat)) ≤ 30000 → C) : ratT s i A C := by
 refine ⟨hp, ?_⟩
 by_cases h1 : sg (cnt s (2 * i.toNat)) > 30000
 ·rw [decide_eq_true h1]; exact hA (by omega)
 ·rw [decide_eq_false h1]
  by_cases h2 : sg (cnt s (2 * i.toNat)) < -30000
  ·rw [decide_eq_true h2]; exact hA (by omega)
  ·rw [decide_eq_false h2]; exact hC ⟨by omega, by omega⟩
set_option maxRecDepth 100000 in
theorem rates_at (s : ByteArray) (h : 6 ≤ s.size) (w : World) (hw : GW w) : Calls Tryz.prog 204 ((lone' cS).enc s).toArray w fun e w' => e = .returned (kSaid.enc (v3T (if gyroOk (sg (cnt s 0)) (sg (cnt s 2)) (sg (cnt s 4)) then gyroV (sg (cnt s 0)) (sg (cnt s 2)) (sg (cnt s 4)) else (0, 0, 0)), gyroOk (sg (cnt s 0)) (sg (cnt s 2)) (sg (cnt s 4)))) ∧ Below w.heap.size w w' := by
 refine pure_at (d := lone' cS) (k := kSaid) (x := s) (y := (v3T (if gyroOk (sg (cnt s 0)) (sg (cnt s 2)) (sg (cnt s 4)) then gyroV (sg (cnt s 0)) (sg (cnt s 2)) (sg (cnt s 4)) else (0, 0, 0)), gyroOk (sg (cnt s 0)) (sg (cnt s 2)) (sg (cnt s 4)))) (tbl := [sgnCt]) (dirty := fun _ => []) (n := 5) xmixA Tryz.func204 rfl (fun Post hP => ?_) w hw
 refine Eq.mpr (β := ratT s 0 (PJ kSaid Post ((0, 0, 0, ()), false)) (ratT s 1 (PJ kSaid Post ((0, 0, 0, ()), false)) (ratT s 2 (PJ kSaid Post ((0, 0, 0, ()), false)) (PJ kSaid Post ((IntKind.i64.wrap (sg (cnt s (2 * (0 : Int).toNat)) * 33554432), IntKind.i64.wrap (sg (cnt s (2 * (1 : Int).toNat)) * 33554432), IntKind.i64.wrap (sg (cnt s (2 * (2 : Int).toNat)) * 33554432), ()), true))))) (by kernel_rfl) ?_
 have key : ∀ a b c : Int, ¬ (gyroOk a b c = true) → PJ kSaid Post (v3T (if gyroOk a b c then gyroV a b c else (0, 0, 0)), gyroOk a b c) → PJ kSaid Post ((0, 0, 0, ()), false) := by
  intro a b c hn hq
  rw [if_neg hn, Bool.eq_false_iff.2 hn] at hq
  exact hq
 have hok : ∀ a b c : Int, gyroOk a b c = true ↔ ((-30000 ≤ a ∧ a ≤ 30000) ∧ (-30000 ≤ b ∧ b ≤ 30000)) ∧ (-30000 ≤ c ∧ c ≤ 30000) := by
  intro a b c
  unfold gyroOk gyroIn
  simp
 refine ratT_of ⟨by decide, by decide, by show 2 * 0 + 1 < s.size; omega⟩ (fun hn => key _ _ _ (fun k => hn ((hok _ _ _).1 k).1.1) hP) (fun h0 => ?_)
 refine ratT_of ⟨by decide, by decide, by show 2 * 1 + 1 < s.size; omega⟩ (fun hn => key _ _ _ (fun k => hn ((hok _ _ _).1 k).1.2) hP) (fun h1 => ?_)
 refine ratT_of ⟨by decide, by decide, by show 2 * 2 + 1 < s.size; omega⟩ (fun hn => key _ _ _ (fun k => hn ((hok _ _ _).1 k).2) hP) (fun h2 => ?_)
 have hg : gyroOk (sg (cnt s 0)) (sg (cnt s 2)) (sg (cnt s 4)) = true := (hok _ _ _).2 ⟨⟨h0, h1⟩, h2⟩
 rw [if_pos hg, hg] at hP
 have e : ∀ x : Int, -30000 ≤ x ∧ x ≤ 30000 → IntKind.i64.wrap (x * 33554432) = x * 33554432 := fun x hx => by
  rw [IntKind.wrap_i64]
  omega
 rw [e _ h0, e _ h1, e _ h2]
 exact hP
set_option maxRecDepth 100000 in
theorem strength_at (s : ByteArray) (h : 6 ≤ s.size) (w : World) (hw : GW w) : Calls Tryz.prog 205 ((lone' cS).enc s).toArray w fun e w' => e = .returned (kSaid.enc (v3T (magS (sg (cnt s 0)) (sg (cnt s 2)) (sg (cnt s 4))).1, magOk (sg (cnt s 0)) (sg (cnt s 2)) (sg (cnt s 4)))) ∧ Below w.heap.size w w' := by
 refine pure_at (d := lone' cS) (k := kSaid) (x := s) (y := (v3T (magS (sg (cnt s 0)) (sg (cnt s 2)) (sg (cnt s 4))).1, magOk (sg (cnt s 0)) (sg (cnt s 2)) (sg (cnt s 4)))) (tbl := [sgnCt, tlPart, normCt]) (dirty := fun _ => []) (n := 5) xmixA Tryz.func205 rfl (fun Post hP => ?_) w hw
 refine Eq.mpr (β := Pla s 0 ∧ Pla s 1 ∧ Pla s 2 ∧ vif (decide (1099511627776 ≤ magN (sg (cnt s 0)) (sg (cnt s 2)) (sg (cnt s 4)))) (PJ kSaid Post (v3T (magS (sg (cnt s 0)) (sg (cnt s 2)) (sg (cnt s 4))).1, decide (magN (sg (cnt s 0)) (sg (cnt s 2)) (sg (cnt s 4)) ≤ 131941395333120))) (PJ kSaid Post (v3T (magS (sg (cnt s 0)) (sg (cnt s 2)) (sg (cnt s 4))).1, false))) (by kernel_rfl) ?_
 refine ⟨⟨by decide, by decide, by show 2 * 0 + 1 < s.size; omega⟩, ⟨by decide, by decide, by show 2 * 1 + 1 < s.size; omega⟩, ⟨by decide, by decide, by show 2 * 2 + 1 < s.size; omega⟩, ?_⟩
 unfold magOk at hP
 cases k : decide (1099511627776 ≤ magN (sg (cnt s 0)) (sg (cnt s 2)) (sg (cnt s 4)))
 ·rw [k] at hP
  exact hP
 ·rw [k] at hP
  exact hP
def dirR (s : ByteArray) (i j : Int) (seen : Bool) (C : Bool → Prop) : Prop := Pla s i ∧ Pla s j ∧ vif seen (C true) (vif (decide (((cnt s (2 * i.toNat) : Nat) : Int) ≥ 2000)) (C true) (C (decide (((cnt s (2 * j.toNat) : Nat) : Int) ≥ 2000))))
theorem dirR_of {s : ByteArray} {i j : Int} {seen : Bool} {C : Bool → Prop} (hi : Pla s i) (hj : Pla s j) (h : C (seen || decide (((cnt s (2 * i.toNat) : Nat) : Int) ≥ 2000) || decide (((cnt s (2 * j.toNat) : Nat) : Int) ≥ 2000))) : dirR s i j seen C := by
 refine ⟨hi, hj, ?_⟩
 cases seen
 ·cases k : decide (((cnt s (2 * i.toNat) : Nat) : Int) ≥ 2000)
  ·rw [k] at h
   exact h
  ·rw [k] at h
   exact h
 ·exact h
def dirV (s : ByteArray) : V3 := (IntKind.i64.wrap (IntKind.i64.wrap (((cnt s (2 * (0 : Int).toNat) : Nat) : Int) - ((cnt s (2 * (1 : Int).toNat) : Nat) : Int)) * 16777216), IntKind.i64.wrap (IntKind.i64.wrap (((cnt s (2 * (2 : Int).toNat) : Nat) : Int) - ((cnt s (2 * (3 : Int).toNat) : Nat) : Int)) * 16777216), IntKind.i64.wrap (IntKind.i64.wrap (((cnt s (2 * (4 : Int).toNat) : Nat) : Int) - ((cnt s (2 * (5 : Int).toNat) : Nat) : Int)) * 16777216))
def dirE (s : ByteArray) (Post : Value → Prop) (b : Bool) : Prop := vif (!b) (PJ kSaid Post ((0, 0, 0, ()), false)) (PJ kSaid Post (v3T (vUnitS false (dirV s)).1, !(vUnitS false (dirV s)).2))
set_option maxRecDepth 100000 in
theorem direction_at (s : ByteArray) (h : 12 ≤ s.size) (w : World) (hw : GW w) : Calls Tryz.prog 206 ((lone' cS).enc s).toArray w fun e w' => e = .returned (kSaid.enc (v3T (if lit (cnt s 0 : Nat) (cnt s 2 : Nat) (cnt s 4 : Nat) (cnt s 6 : Nat) (cnt s 8 : Nat) (cnt s 10 : Nat) then (sunS (cnt s 0 : Nat) (cnt s 2 : Nat) (cnt s 4 : Nat) (cnt s 6 : Nat) (cnt s 8 : Nat) (cnt s 10 : Nat)).1 else (0, 0, 0)), sunOk (cnt s 0 : Nat) (cnt s 2 : Nat) (cnt s 4 : Nat) (cnt s 6 : Nat) (cnt s 8 : Nat) (cnt s 10 : Nat))) ∧ Below w.heap.size w w' := by
 refine pure_at (d := lone' cS) (k := kSaid) (x := s) (y := (v3T (if lit (cnt s 0 : Nat) (cnt s 2 : Nat) (cnt s 4 : Nat) (cnt s 6 : Nat) (cnt s 8 : Nat) (cnt s 10 : Nat) then (sunS (cnt s 0 : Nat) (cnt s 2 : Nat) (cnt s 4 : Nat) (cnt s 6 : Nat) (cnt s 8 : Nat) (cnt s 10 : Nat)).1 else (0, 0, 0)), sunOk (cnt s 0 : Nat) (cnt s 2 : Nat) (cnt s 4 : Nat) (cnt s 6 : Nat) (cnt s 8 : Nat) (cnt s 10 : Nat))) (tbl := [plnCt, unitCt]) (dirty := fun i => if i = 14 then [1002] else []) (n := 5) xmixA Tryz.func206 rfl (fun Post hP => ?_) w hw
 refine Eq.mpr (β := dirR s 0 1 false fun b => dirR s 2 3 b fun b => dirR s 4 5 b fun b => dirE s Post b) (by kernel_rfl) ?_
 have pl : ∀ i : Nat, i < 6 → Pla s i := fun i hi => ⟨by omega, by omega, by rw [Int.toNat_natCast]; omega⟩
 refine dirR_of (pl 0 (by decide)) (pl 1 (by decide)) (dirR_of (pl 2 (by decide)) (pl 3 (by decide)) (dirR_of (pl 4 (by decide)) (pl 5 (by decide)) ?_))
 have hv : dirV s = sunD (cnt s 0 : Nat) (cnt s 2 : Nat) (cnt s 4 : Nat) (cnt s 6 : Nat) (cnt s 8 : Nat) (cnt s 10 : Nat) := by
  have e : ∀ a b : Nat, a < 65536 → b < 65536 → IntKind.i64.wrap (IntKind.i64.wrap ((a : Int) - (b : Int)) * 16777216) = ((a : Int) - b) * 16777216 := fun a b ha hb => by
   rw [IntKind.wrap_i64, IntKind.wrap_i64]
   omega
  unfold dirV sunD
  rw [e _ _ (cnt_lt _ _) (cnt_lt _ _), e _ _ (cnt_lt _ _) (cnt_lt _ _), e _ _ (cnt_lt _ _) (cnt_lt _ _)]
  rfl
 have hb : (false || decide (((cnt s (2 * (0 : Int).toNat) : Nat) : Int) ≥ 2000) || decide (((cnt s (2 * (1 : Int).toNat) : Nat) : Int) ≥ 2000) || decide (((cnt s (2 * (2 : Int).toNat) : Nat) : Int) ≥ 2000) || decide (((cnt s (2 * (3 : Int).toNat) : Nat) : Int) ≥ 2000) || decide (((cnt s (2 * (4 : Int).toNat) : Nat) : Int) ≥ 2000) || decide (((cnt s (2 * (5 : Int).toNat) : Nat) : Int) ≥ 2000)) = lit (cnt s 0 : Nat) (cnt s 2 : Nat) (cnt s 4 : Nat) (cnt s 6 : Nat) (cnt s 8 : Nat) (cnt s 10 : Nat) := rfl
 rw [hb]
 unfold dirE
 rw [hv]
 unfold sunOk at hP
 cases k : lit (cnt s 0 : Nat) (cnt s 2 : Nat) (cnt s 4 : Nat) (cnt s 6 : Nat) (cnt s 8 : Nat) (cnt s 10 : Nat)
 ·rw [k] at hP
  exact hP
 ·rw [k] at hP
  exact hP
set_option maxRecDepth 100000 in
theorem said_by {k : Int} {s : ByteArray} {y : Tup 3 × Bool} (w : World) (hw : GW w)
    (h : (k = 1 ∧ ∀ w, GW w → Calls Tryz.prog 204 ((lone' cS).enc s).toArray w fun e w' => e = .returned (kSaid.enc y) ∧ Below w.heap.size w w') ∨ (k = 3 ∧ ∀ w, GW w → Calls Tryz.prog 205 ((lone' cS).enc s).toArray w fun e w' => e = .returned (kSaid.enc y) ∧ Below w.heap.size w w') ∨ ((k ≠ 1 ∧ k ≠ 3) ∧ ∀ w, GW w → Calls Tryz.prog 206 ((lone' cS).enc s).toArray w fun e w' => e = .returned (kSaid.enc y) ∧ Below w.heap.size w w')) :
    Calls Tryz.prog 148 ((then' cI (lone' cS)).enc (k, s)).toArray w fun e w' => e = .returned (kSaid.enc y) ∧ Below w.heap.size w w' := by
 rcases h with ⟨rfl, h⟩ | ⟨rfl, h⟩ | ⟨⟨n1, n3⟩, h⟩
 ·refine pure_at (d := then' cI (lone' cS)) (k := kSaid) (x := (1, s)) (y := y) (tbl := [ctAt Tryz.prog 204 (lone' cS) kSaid s y (go_of Tryz.func204 (by kernel_rfl) (by kernel_rfl)) h]) (dirty := fun _ => []) (n := 4) xmixA Tryz.func148 rfl (fun Post hP => ?_) w hw
  exact Eq.mpr (β := (lone' cS).enc s = (lone' cS).enc s ∧ PJ kSaid Post y) (by kernel_rfl) ⟨rfl, hP⟩
 ·refine pure_at (d := then' cI (lone' cS)) (k := kSaid) (x := (3, s)) (y := y) (tbl := [ctAt Tryz.prog 205 (lone' cS) kSaid s y (go_of Tryz.func205 (by kernel_rfl) (by kernel_rfl)) h]) (dirty := fun _ => []) (n := 4) xmixA Tryz.func148 rfl (fun Post hP => ?_) w hw
  exact Eq.mpr (β := (lone' cS).enc s = (lone' cS).enc s ∧ PJ kSaid Post y) (by kernel_rfl) ⟨rfl, hP⟩
 ·refine pure_at (d := then' cI (lone' cS)) (k := kSaid) (x := (k, s)) (y := y) (tbl := [ctAt Tryz.prog 206 (lone' cS) kSaid s y (go_of Tryz.func206 (by kernel_rfl) (by kernel_rfl)) h]) (dirty := fun _ => []) (n := 4) xmixA Tryz.func148 rfl (fun Post hP => ?_) w hw
  refine Eq.mpr (β := vif (decide (k = 1)) False (vif (decide (k = 3)) False ((lone' cS).enc s = (lone' cS).enc s ∧ PJ kSaid Post y))) (by kernel_rfl) ?_
  rw [decide_eq_false n1, decide_eq_false n3]
  exact ⟨rfl, hP⟩
def vecV (v : V3) : Value := .agg #[.int .i64 v.1, .int .i64 v.2.1, .int .i64 v.2.2]
def gyroS (a b c : Int) : V3 := if gyroOk a b c then gyroV a b c else (0, 0, 0)
def sunR (a b c d e f : Int) : V3 := if lit a b c d e f then (sunS a b c d e f).1 else (0, 0, 0)
def saidR (k : Int) (s : ByteArray) : V3 :=
 if k = 1 then gyroS (sg (cnt s 0)) (sg (cnt s 2)) (sg (cnt s 4))
 else if k = 3 then (magS (sg (cnt s 0)) (sg (cnt s 2)) (sg (cnt s 4))).1
 else sunR (cnt s 0 : Nat) (cnt s 2 : Nat) (cnt s 4 : Nat) (cnt s 6 : Nat) (cnt s 8 : Nat) (cnt s 10 : Nat)
theorem ssaid_any (k : Int) (s : ByteArray) (w : World) (hw : GW w) (h : 6 ≤ s.size) (h2 : k ≠ 1 → k ≠ 3 → 12 ≤ s.size) :
    Calls Tryz.prog 148 #[.int .i64 k, .string s] w fun e w' => e = .returned (.tuple #[vecV (saidR k s), .bool (saidOk k s 0)]) ∧ Below w.heap.size w w' := by
 refine said_by (k := k) (s := s) (y := (v3T (saidR k s), saidOk k s 0)) w hw ?_
 unfold saidR saidOk
 by_cases c1 : k = 1
 ·rw [if_pos c1, if_pos c1]
  exact .inl ⟨c1, rates_at s h⟩
 rw [if_neg c1, if_neg c1]
 by_cases c3 : k = 3
 ·rw [if_pos c3, if_pos c3]
  exact .inr (.inl ⟨c3, strength_at s h⟩)
 rw [if_neg c3, if_neg c3]
 exact .inr (.inr ⟨⟨c1, c3⟩, direction_at s (h2 c1 c3)⟩)
end Go.Proofs.YtbophanlmkbfeaaGreatDoor
namespace Go.Proofs.YtbophanlmkbfeaaGreatDoor
open Go.RowKit
set_option maxRecDepth 100000
set_option maxHeartbeats 20000000
theorem saidR_ok {k : Int} {s : ByteArray} (h : saidOk k s 0 = true) : saidR k s = saidV k s 0 := by
 unfold saidOk at h
 unfold saidR saidV
 by_cases c1 : k = 1
 ·rw [if_pos c1] at h ⊢
  rw [if_pos c1]
  unfold gyroS
  rw [if_pos h]
 rw [if_neg c1] at h ⊢
 rw [if_neg c1]
 by_cases c3 : k = 3
 ·rw [if_pos c3, if_pos c3]
 rw [if_neg c3] at h ⊢
 rw [if_neg c3]
 unfold sunOk at h
 unfold sunR
 rw [if_pos (by simp at h; exact h.1)]
theorem saidV_tail (k : Int) (s : ByteArray) : saidV k (s.extract 6 s.size) 0 = saidV k s 6 := by
 unfold saidV
 simp only [cnt_tail]
theorem saidOk_tail (k : Int) (s : ByteArray) : saidOk k (s.extract 6 s.size) 0 = saidOk k s 6 := by
 unfold saidOk
 simp only [cnt_tail]
theorem kc {W x : World} (h : Below W.heap.size W x) (b j : Nat) (hb : b < W.heap.size) : x.cell? ⟨b, j, none⟩ = W.cell? ⟨b, j, none⟩ := h.cell hb
theorem kf {W x : World} (h : Below W.heap.size W x) (b j : Nat) (hb : b < W.heap.size) : x.frozen? ⟨b, j, none⟩ = W.frozen? ⟨b, j, none⟩ := h.frozen hb
def rdV (r : Int × Int × V3) : Value := .agg #[.int .i64 r.1, .int .i64 r.2.1, .int .i64 r.2.2.1, .int .i64 r.2.2.2.1, .int .i64 r.2.2.2.2]
theorem sread_not (k : Int) (s : ByteArray) (w : World) (hm : s.size ≤ maxLen) (hf : formOk k s = false) :
    Calls Tryz.prog 83 #[.agg #[.int .i64 k, .string s]] w fun e w' => e = .returned (.tuple #[rdV (0, 0, 0, 0, 0), .bool false]) ∧ Below w.heap.size w w' := by
 have hc := scounts_any k
 by_cases c0 : nCounts k = 0
 ·rw [c0] at hc
  go_enter Tryz.func83, Tryz.ntmps83
  go_wp2_with fail
  refine (hc _).mono ?_
  rintro e X ⟨rfl, rfl⟩
  go_wp2_with (with_reducible refine post_stop ?_)
  exact ⟨bodyPost_ret (v := .tuple #[rdV (0, 0, 0, 0, 0), .bool false]) (by unfold rdV; simp [results_cell_tmp Tryz.results83, asAddr, go_sem]) rfl ⟨rfl, bel_al (bel_al (Below.refl _ _) _) _⟩⟩
 ·have hs : ((s.size : Int) != 6 + nCounts k * 2) = true := by
   unfold formOk at hf
   unfold nCounts at c0 ⊢
   simp at hf
   simp
   split
   ·omega
   ·split
    ·omega
    ·omega
  have hn : 0 ≤ nCounts k ∧ nCounts k ≤ 6 := by unfold nCounts; split <;> (try split) <;> omega
  have hm' : (s.size : Int) ≤ 9223372036854775807 := by unfold maxLen at hm; omega
  have c1 : (nCounts k == 0) = false := by simpa using c0
  clear hf c0 hm
  generalize nCounts k = n at *
  go_enter Tryz.func83, Tryz.ntmps83
  go_wp2_with fail
  refine (hc _).mono ?_
  rintro e X ⟨rfl, rfl⟩
  go_wp2_with (with_reducible refine post_stop ?_)
  exact ⟨bodyPost_ret (v := .tuple #[rdV (0, 0, 0, 0, 0), .bool false]) (by unfold rdV; simp [results_cell_tmp Tryz.results83, asAddr, go_sem]) rfl ⟨rfl, bel_al (bel_al (Below.refl _ _) _) _⟩⟩
theorem sread_form (k : Int) (s : ByteArray) (w : World) (hw : GW w) (hf : formOk k s = true) :
    Calls Tryz.prog 83 #[.agg #[.int .i64 k, .string s]] w fun e w' => e = .returned (.tuple #[rdV (readR k s), .bool (readOk k s)]) ∧ Below w.heap.size w w' := by
 have hc := scounts_any k
 have hz : s.size = 12 ∧ nCounts k = 3 ∧ (k = 1 ∨ k = 3) ∨ s.size = 18 ∧ nCounts k = 6 ∧ k = 2 := by
  unfold formOk at hf
  simp at hf
  rcases hf with (⟨rfl, h⟩ | ⟨rfl, h⟩) | ⟨rfl, h⟩
  ·exact Or.inl ⟨h, rfl, Or.inl rfl⟩
  ·exact Or.inl ⟨h, rfl, Or.inr rfl⟩
  ·exact Or.inr ⟨h, rfl, rfl⟩
 have hsl : ∀ W : World, (Instr.slice 9 (.string s) none (some (.int .i64 6)) none).run Tryz.prog W = .ok (.string (s.extract 0 6)) W := fun W => by
  rw [run_slice_string_h W 9 s Tryz.underlying9 .i64 6 (by omega) (by omega)]
  rfl
 have hsr : ∀ W : World, (Instr.slice 9 (.string s) (some (.int .i64 6)) none none).run Tryz.prog W = .ok (.string (s.extract 6 s.size)) W := fun W => by
  rw [run_slice_string_from_if W 9 s .i64 6 Tryz.underlying9, if_pos (by omega)]
  rfl
 have z6 : (s.extract 0 6).size = 6 := by rw [ByteArray.size_extract]; omega
 have zr : (s.extract 6 s.size).size = s.size - 6 := by rw [ByteArray.size_extract]; omega
 have hj := fun W => sjoined_any (s.extract 0 6) W z6
 rw [tick_head] at hj
 have hd := fun W hW => ssaid_any k (s.extract 6 s.size) W hW (by omega) (by omega)
 rw [saidOk_tail] at hd
 have HV : Hid (saidOk k s 6 = true → saidR k (s.extract 6 s.size) = saidV k s 6) := fun h => by
  rw [← saidOk_tail] at h
  rw [saidR_ok h, saidV_tail]
 have HO : Hid (readOk k s = (cRight (tickS s) && saidOk k s 6)) := by show _ = _; unfold readOk; rw [hf, Bool.true_and]
 have HR : Hid (readR k s = if readOk k s then (k, tickS s, saidV k s 6) else (0, 0, 0, 0, 0)) := rfl
 have ht := cRight_any (tickS s)
 have htr := tickS_rng s
 generalize tickS s = t at *
 generalize saidOk k s 6 = o at *
 generalize saidR k (s.extract 6 s.size) = v at *
 generalize s.extract 0 6 = s0 at *
 generalize s.extract 6 s.size = s1 at *
 obtain ⟨n, hn⟩ : ∃ n, nCounts k = n := ⟨_, rfl⟩
 rw [hn] at hc hz
 have hs12 : (s.size : Int) = 6 + n * 2 := by omega
 have hn6 : n = 3 ∨ n = 6 := by omega
 clear hn hf z6 zr
 unfold rdV vecV at *
 go_enter Tryz.func83, Tryz.ntmps83
 go_wp2_with fail
 refine (hc _).mono ?_
 rintro e X ⟨rfl, rfl⟩
 go_wp2_with fail
 refine (hj _).mono ?_
 rintro e X1 ⟨rfl, k1⟩
 have L1 := bel_then (bel_al (bel_al (Below.refl _ w) _) _) k1
 have B1 := ((Arr_at w w.heap.size [.int .i64 k, .string s] 49 rfl).alloc _).below k1
 have R1 := (Arr_at (w.alloc (.cells #[.int .i64 k, .string s] 49)) (w.heap.size + 1) [.int .i64 0, .int .i64 0, .int .i64 0, .int .i64 0, .int .i64 0] 68 (by simp)).below k1
 have Rz := R1.lies
 have Bz := B1.lies
 have cB0 : X1.cell? ⟨w.heap.size, 0, none⟩ = some (.int .i64 k) := B1.c 0 (zD rfl)
 have cB1 : X1.cell? ⟨w.heap.size, 1, none⟩ = some (.string s) := B1.c 1 (zD rfl)
 clear k1
 go_wp2_with fail
 go_region_with (go_at_call 148; refine (hd _ (by first | exact hw.below (bel_drew L1) | exact hw.below (bel_drew (bel_al L1 _)))).mono ?_; rintro e X2 ⟨rfl, k2⟩; have q0 := kc k2 X1.heap.size 0; have q1 := kc k2 X1.heap.size 1; have q2 := kc k2 X1.heap.size 2; have p0 := kf k2 X1.heap.size 0; have p1 := kf k2 X1.heap.size 1; have p2 := kf k2 X1.heap.size 2)
 all_goals first
  | (have L2 := bel_then (bel_drew L1) k2
     have B2 := (B1.drew).below k2
     have R2 := (R1.drew).below k2
     have z2 := k2.size
     have LY := bel_al L2 (.cells #[.int .i64 v.1, .int .i64 v.2.1, .int .i64 v.2.2] 30)
     have BY := B2.alloc (.cells #[.int .i64 v.1, .int .i64 v.2.1, .int .i64 v.2.2] 30)
     have RY := R2.alloc (.cells #[.int .i64 v.1, .int .i64 v.2.1, .int .i64 v.2.2] 30)
     have VY := Arr_at X2 X2.heap.size [.int .i64 v.1, .int .i64 v.2.1, .int .i64 v.2.2] 30 rfl
     have hbw := R2.lies
     obtain ⟨Y, hY⟩ : ∃ Y, Y = X2.alloc (.cells #[.int .i64 v.1, .int .i64 v.2.1, .int .i64 v.2.2] 30) := ⟨_, rfl⟩
     rw [← hY] at LY BY RY ⊢
     rw [show X2.alloc (.cells [.int .i64 v.1, .int .i64 v.2.1, .int .i64 v.2.2].toArray 30) = Y from hY.symm] at VY
     obtain ⟨b, hb⟩ : ∃ b, b = X2.heap.size := ⟨_, rfl⟩
     rw [← hb] at VY hbw ⊢
     clear hY hb k2 L2 B2 R2 z2 q0 q1 q2 p0 p1 p2)
  | (have L2 := bel_then (bel_drew (bel_al L1 _)) k2
     have B2 := ((B1.alloc _).drew).below k2
     have R2 := ((R1.alloc _).drew).below k2
     have V2 := ((Arr_at X1 X1.heap.size [.int .i64 0, .int .i64 0, .int .i64 0] 30 rfl).drew).below k2
     have LY := bel_new (bel_new (bel_new L2 X1.heap.size 0 (by omega) (.int .i64 v.1)) X1.heap.size 1 (by omega) (.int .i64 v.2.1)) X1.heap.size 2 (by omega) (.int .i64 v.2.2)
     have BY := ((B2.new X1.heap.size 0 (by omega) (.int .i64 v.1)).new X1.heap.size 1 (by omega) (.int .i64 v.2.1)).new X1.heap.size 2 (by omega) (.int .i64 v.2.2)
     have RY := ((R2.new X1.heap.size 0 (by omega) (.int .i64 v.1)).new X1.heap.size 1 (by omega) (.int .i64 v.2.1)).new X1.heap.size 2 (by omega) (.int .i64 v.2.2)
     have VY := ((V2.put 0 (zD rfl) (.int .i64 v.1) [.int .i64 v.1, .int .i64 0, .int .i64 0] rfl).put 1 (zD rfl) (.int .i64 v.2.1) [.int .i64 v.1, .int .i64 v.2.1, .int .i64 0] rfl).put 2 (zD rfl) (.int .i64 v.2.2) [.int .i64 v.1, .int .i64 v.2.1, .int .i64 v.2.2] rfl
     have hbw : w.heap.size + 1 < X1.heap.size := Rz
     obtain ⟨Y, hY⟩ : ∃ Y, Y = ((X2.setCell ⟨X1.heap.size, 0, none⟩ (.int .i64 v.1)).setCell ⟨X1.heap.size, 1, none⟩ (.int .i64 v.2.1)).setCell ⟨X1.heap.size, 2, none⟩ (.int .i64 v.2.2) := ⟨_, rfl⟩
     rw [← hY] at LY BY RY VY ⊢
     obtain ⟨b, hb⟩ : ∃ b, b = X1.heap.size := ⟨_, rfl⟩
     rw [← hb] at VY hbw ⊢
     clear hY hb k2 L2 B2 R2 V2 q0 q1 q2 p0 p1 p2)
 all_goals
  have Vz := VY.lies
  have Ry := RY.lies
  clear L1 B1 R1 Rz Bz cB0 cB1 X2
  cases o
  ·have cR_0 : Y.cell? ⟨w.heap.size + 1, 0, none⟩ = some (.int .i64 0) := RY.c 0 (zD rfl)
   have gR_0 := RY.f 0 (zD rfl)
   have cR_1 : Y.cell? ⟨w.heap.size + 1, 1, none⟩ = some (.int .i64 0) := RY.c 1 (zD rfl)
   have gR_1 := RY.f 1 (zD rfl)
   have cR_2 : Y.cell? ⟨w.heap.size + 1, 2, none⟩ = some (.int .i64 0) := RY.c 2 (zD rfl)
   have gR_2 := RY.f 2 (zD rfl)
   have cR_3 : Y.cell? ⟨w.heap.size + 1, 3, none⟩ = some (.int .i64 0) := RY.c 3 (zD rfl)
   have gR_3 := RY.f 3 (zD rfl)
   have cR_4 : Y.cell? ⟨w.heap.size + 1, 4, none⟩ = some (.int .i64 0) := RY.c 4 (zD rfl)
   have gR_4 := RY.f 4 (zD rfl)
   go_wp2_with (with_reducible refine post_stop ?_)
   have d0 := Arr.c (((((RY.put 0 (zD rfl) (.int .i64 0) [.int .i64 0, .int .i64 0, .int .i64 0, .int .i64 0, .int .i64 0] rfl).put 1 (zD rfl) (.int .i64 0) [.int .i64 0, .int .i64 0, .int .i64 0, .int .i64 0, .int .i64 0] rfl).put 2 (zD rfl) (.int .i64 0) [.int .i64 0, .int .i64 0, .int .i64 0, .int .i64 0, .int .i64 0] rfl).put 3 (zD rfl) (.int .i64 0) [.int .i64 0, .int .i64 0, .int .i64 0, .int .i64 0, .int .i64 0] rfl).put 4 (zD rfl) (.int .i64 0) [.int .i64 0, .int .i64 0, .int .i64 0, .int .i64 0, .int .i64 0] rfl) 0 (zD rfl)
   have d1 := Arr.c (((((RY.put 0 (zD rfl) (.int .i64 0) [.int .i64 0, .int .i64 0, .int .i64 0, .int .i64 0, .int .i64 0] rfl).put 1 (zD rfl) (.int .i64 0) [.int .i64 0, .int .i64 0, .int .i64 0, .int .i64 0, .int .i64 0] rfl).put 2 (zD rfl) (.int .i64 0) [.int .i64 0, .int .i64 0, .int .i64 0, .int .i64 0, .int .i64 0] rfl).put 3 (zD rfl) (.int .i64 0) [.int .i64 0, .int .i64 0, .int .i64 0, .int .i64 0, .int .i64 0] rfl).put 4 (zD rfl) (.int .i64 0) [.int .i64 0, .int .i64 0, .int .i64 0, .int .i64 0, .int .i64 0] rfl) 1 (zD rfl)
   have d2 := Arr.c (((((RY.put 0 (zD rfl) (.int .i64 0) [.int .i64 0, .int .i64 0, .int .i64 0, .int .i64 0, .int .i64 0] rfl).put 1 (zD rfl) (.int .i64 0) [.int .i64 0, .int .i64 0, .int .i64 0, .int .i64 0, .int .i64 0] rfl).put 2 (zD rfl) (.int .i64 0) [.int .i64 0, .int .i64 0, .int .i64 0, .int .i64 0, .int .i64 0] rfl).put 3 (zD rfl) (.int .i64 0) [.int .i64 0, .int .i64 0, .int .i64 0, .int .i64 0, .int .i64 0] rfl).put 4 (zD rfl) (.int .i64 0) [.int .i64 0, .int .i64 0, .int .i64 0, .int .i64 0, .int .i64 0] rfl) 2 (zD rfl)
   have d3 := Arr.c (((((RY.put 0 (zD rfl) (.int .i64 0) [.int .i64 0, .int .i64 0, .int .i64 0, .int .i64 0, .int .i64 0] rfl).put 1 (zD rfl) (.int .i64 0) [.int .i64 0, .int .i64 0, .int .i64 0, .int .i64 0, .int .i64 0] rfl).put 2 (zD rfl) (.int .i64 0) [.int .i64 0, .int .i64 0, .int .i64 0, .int .i64 0, .int .i64 0] rfl).put 3 (zD rfl) (.int .i64 0) [.int .i64 0, .int .i64 0, .int .i64 0, .int .i64 0, .int .i64 0] rfl).put 4 (zD rfl) (.int .i64 0) [.int .i64 0, .int .i64 0, .int .i64 0, .int .i64 0, .int .i64 0] rfl) 3 (zD rfl)
   have d4 := Arr.c (((((RY.put 0 (zD rfl) (.int .i64 0) [.int .i64 0, .int .i64 0, .int .i64 0, .int .i64 0, .int .i64 0] rfl).put 1 (zD rfl) (.int .i64 0) [.int .i64 0, .int .i64 0, .int .i64 0, .int .i64 0, .int .i64 0] rfl).put 2 (zD rfl) (.int .i64 0) [.int .i64 0, .int .i64 0, .int .i64 0, .int .i64 0, .int .i64 0] rfl).put 3 (zD rfl) (.int .i64 0) [.int .i64 0, .int .i64 0, .int .i64 0, .int .i64 0, .int .i64 0] rfl).put 4 (zD rfl) (.int .i64 0) [.int .i64 0, .int .i64 0, .int .i64 0, .int .i64 0, .int .i64 0] rfl) 4 (zD rfl)
   simp only [List.getElem_cons_zero, List.getElem_cons_succ] at d0 d1 d2 d3 d4
   exact ⟨bodyPost_ret (v := .tuple #[.agg #[.int .i64 0, .int .i64 0, .int .i64 0, .int .i64 0, .int .i64 0], .bool false]) (by simp [results_cell_tmp Tryz.results83, asAddr, go_sem, d0, d1, d2, d3, d4]) rfl ⟨by rw [HR.out, HO.out, Bool.and_false]; rfl, (bel_new (bel_new (bel_new (bel_new (bel_new LY _ _ (by omega) _) _ _ (by omega) _) _ _ (by omega) _) _ _ (by omega) _) _ _ (by omega) _)⟩⟩
  ·go_wp2_with fail
   refine (ht _).mono ?_
   rintro e U ⟨rfl, ku⟩
   have LU := bel_then LY ku
   have BU := BY.below ku
   have RU := RY.below ku
   have VU := VY.below ku
   have Vu := VU.lies
   have Ru := RU.lies
   clear ku LY BY RY VY Vz Ry ht
   cases hcr : cRight t
   ·have HC : Hid (cRight t = false) := hcr
    clear hcr
    have cR_0 : U.cell? ⟨w.heap.size + 1, 0, none⟩ = some (.int .i64 0) := RU.c 0 (zD rfl)
    have gR_0 := RU.f 0 (zD rfl)
    have cR_1 : U.cell? ⟨w.heap.size + 1, 1, none⟩ = some (.int .i64 0) := RU.c 1 (zD rfl)
    have gR_1 := RU.f 1 (zD rfl)
    have cR_2 : U.cell? ⟨w.heap.size + 1, 2, none⟩ = some (.int .i64 0) := RU.c 2 (zD rfl)
    have gR_2 := RU.f 2 (zD rfl)
    have cR_3 : U.cell? ⟨w.heap.size + 1, 3, none⟩ = some (.int .i64 0) := RU.c 3 (zD rfl)
    have gR_3 := RU.f 3 (zD rfl)
    have cR_4 : U.cell? ⟨w.heap.size + 1, 4, none⟩ = some (.int .i64 0) := RU.c 4 (zD rfl)
    have gR_4 := RU.f 4 (zD rfl)
    go_wp2_with (with_reducible refine post_stop ?_)
    have d0 := Arr.c (((((RU.put 0 (zD rfl) (.int .i64 0) [.int .i64 0, .int .i64 0, .int .i64 0, .int .i64 0, .int .i64 0] rfl).put 1 (zD rfl) (.int .i64 0) [.int .i64 0, .int .i64 0, .int .i64 0, .int .i64 0, .int .i64 0] rfl).put 2 (zD rfl) (.int .i64 0) [.int .i64 0, .int .i64 0, .int .i64 0, .int .i64 0, .int .i64 0] rfl).put 3 (zD rfl) (.int .i64 0) [.int .i64 0, .int .i64 0, .int .i64 0, .int .i64 0, .int .i64 0] rfl).put 4 (zD rfl) (.int .i64 0) [.int .i64 0, .int .i64 0, .int .i64 0, .int .i64 0, .int .i64 0] rfl) 0 (zD rfl)
    have d1 := Arr.c (((((RU.put 0 (zD rfl) (.int .i64 0) [.int .i64 0, .int .i64 0, .int .i64 0, .int .i64 0, .int .i64 0] rfl).put 1 (zD rfl) (.int .i64 0) [.int .i64 0, .int .i64 0, .int .i64 0, .int .i64 0, .int .i64 0] rfl).put 2 (zD rfl) (.int .i64 0) [.int .i64 0, .int .i64 0, .int .i64 0, .int .i64 0, .int .i64 0] rfl).put 3 (zD rfl) (.int .i64 0) [.int .i64 0, .int .i64 0, .int .i64 0, .int .i64 0, .int .i64 0] rfl).put 4 (zD rfl) (.int .i64 0) [.int .i64 0, .int .i64 0, .int .i64 0, .int .i64 0, .int .i64 0] rfl) 1 (zD rfl)
    have d2 := Arr.c (((((RU.put 0 (zD rfl) (.int .i64 0) [.int .i64 0, .int .i64 0, .int .i64 0, .int .i64 0, .int .i64 0] rfl).put 1 (zD rfl) (.int .i64 0) [.int .i64 0, .int .i64 0, .int .i64 0, .int .i64 0, .int .i64 0] rfl).put 2 (zD rfl) (.int .i64 0) [.int .i64 0, .int .i64 0, .int .i64 0, .int .i64 0, .int .i64 0] rfl).put 3 (zD rfl) (.int .i64 0) [.int .i64 0, .int .i64 0, .int .i64 0, .int .i64 0, .int .i64 0] rfl).put 4 (zD rfl) (.int .i64 0) [.int .i64 0, .int .i64 0, .int .i64 0, .int .i64 0, .int .i64 0] rfl) 2 (zD rfl)
    have d3 := Arr.c (((((RU.put 0 (zD rfl) (.int .i64 0) [.int .i64 0, .int .i64 0, .int .i64 0, .int .i64 0, .int .i64 0] rfl).put 1 (zD rfl) (.int .i64 0) [.int .i64 0, .int .i64 0, .int .i64 0, .int .i64 0, .int .i64 0] rfl).put 2 (zD rfl) (.int .i64 0) [.int .i64 0, .int .i64 0, .int .i64 0, .int .i64 0, .int .i64 0] rfl).put 3 (zD rfl) (.int .i64 0) [.int .i64 0, .int .i64 0, .int .i64 0, .int .i64 0, .int .i64 0] rfl).put 4 (zD rfl) (.int .i64 0) [.int .i64 0, .int .i64 0, .int .i64 0, .int .i64 0, .int .i64 0] rfl) 3 (zD rfl)
    have d4 := Arr.c (((((RU.put 0 (zD rfl) (.int .i64 0) [.int .i64 0, .int .i64 0, .int .i64 0, .int .i64 0, .int .i64 0] rfl).put 1 (zD rfl) (.int .i64 0) [.int .i64 0, .int .i64 0, .int .i64 0, .int .i64 0, .int .i64 0] rfl).put 2 (zD rfl) (.int .i64 0) [.int .i64 0, .int .i64 0, .int .i64 0, .int .i64 0, .int .i64 0] rfl).put 3 (zD rfl) (.int .i64 0) [.int .i64 0, .int .i64 0, .int .i64 0, .int .i64 0, .int .i64 0] rfl).put 4 (zD rfl) (.int .i64 0) [.int .i64 0, .int .i64 0, .int .i64 0, .int .i64 0, .int .i64 0] rfl) 4 (zD rfl)
    simp only [List.getElem_cons_zero, List.getElem_cons_succ] at d0 d1 d2 d3 d4
    exact ⟨bodyPost_ret (v := .tuple #[.agg #[.int .i64 0, .int .i64 0, .int .i64 0, .int .i64 0, .int .i64 0], .bool false]) (by simp [results_cell_tmp Tryz.results83, asAddr, go_sem, d0, d1, d2, d3, d4]) rfl ⟨by rw [HR.out, HO.out, HC.out]; rfl, (bel_new (bel_new (bel_new (bel_new (bel_new LU _ _ (by omega) _) _ _ (by omega) _) _ _ (by omega) _) _ _ (by omega) _) _ _ (by omega) _)⟩⟩
   ·have HC : Hid (cRight t = true) := hcr
    have hv := HV.out (by trivial)
    have HW : Hid (v = saidV k s 6) := hv
    clear hcr hv
    have cB0 : U.cell? ⟨w.heap.size, 0, none⟩ = some (.int .i64 k) := BU.c 0 (zD rfl)
    have cV0 : U.cell? ⟨b, 0, none⟩ = some (.int .i64 v.1) := VU.c 0 (zD rfl)
    have cV1 : U.cell? ⟨b, 1, none⟩ = some (.int .i64 v.2.1) := VU.c 1 (zD rfl)
    have cV2 : U.cell? ⟨b, 2, none⟩ = some (.int .i64 v.2.2) := VU.c 2 (zD rfl)
    have cR_0 : U.cell? ⟨w.heap.size + 1, 0, none⟩ = some (.int .i64 0) := RU.c 0 (zD rfl)
    have gR_0 := RU.f 0 (zD rfl)
    have cR_1 : U.cell? ⟨w.heap.size + 1, 1, none⟩ = some (.int .i64 0) := RU.c 1 (zD rfl)
    have gR_1 := RU.f 1 (zD rfl)
    have cR_2 : U.cell? ⟨w.heap.size + 1, 2, none⟩ = some (.int .i64 0) := RU.c 2 (zD rfl)
    have gR_2 := RU.f 2 (zD rfl)
    have cR_3 : U.cell? ⟨w.heap.size + 1, 3, none⟩ = some (.int .i64 0) := RU.c 3 (zD rfl)
    have gR_3 := RU.f 3 (zD rfl)
    have cR_4 : U.cell? ⟨w.heap.size + 1, 4, none⟩ = some (.int .i64 0) := RU.c 4 (zD rfl)
    have gR_4 := RU.f 4 (zD rfl)
    go_wp2_with (with_reducible refine post_stop ?_)
    have d0 := Arr.c (((((RU.put 0 (zD rfl) (.int .i64 k) [.int .i64 k, .int .i64 0, .int .i64 0, .int .i64 0, .int .i64 0] rfl).put 1 (zD rfl) (.int .i64 t) [.int .i64 k, .int .i64 t, .int .i64 0, .int .i64 0, .int .i64 0] rfl).put 2 (zD rfl) (.int .i64 v.1) [.int .i64 k, .int .i64 t, .int .i64 v.1, .int .i64 0, .int .i64 0] rfl).put 3 (zD rfl) (.int .i64 v.2.1) [.int .i64 k, .int .i64 t, .int .i64 v.1, .int .i64 v.2.1, .int .i64 0] rfl).put 4 (zD rfl) (.int .i64 v.2.2) [.int .i64 k, .int .i64 t, .int .i64 v.1, .int .i64 v.2.1, .int .i64 v.2.2] rfl) 0 (zD rfl)
    have d1 := Arr.c (((((RU.put 0 (zD rfl) (.int .i64 k) [.int .i64 k, .int .i64 0, .int .i64 0, .int .i64 0, .int .i64 0] rfl).put 1 (zD rfl) (.int .i64 t) [.int .i64 k, .int .i64 t, .int .i64 0, .int .i64 0, .int .i64 0] rfl).put 2 (zD rfl) (.int .i64 v.1) [.int .i64 k, .int .i64 t, .int .i64 v.1, .int .i64 0, .int .i64 0] rfl).put 3 (zD rfl) (.int .i64 v.2.1) [.int .i64 k, .int .i64 t, .int .i64 v.1, .int .i64 v.2.1, .int .i64 0] rfl).put 4 (zD rfl) (.int .i64 v.2.2) [.int .i64 k, .int .i64 t, .int .i64 v.1, .int .i64 v.2.1, .int .i64 v.2.2] rfl) 1 (zD rfl)
    have d2 := Arr.c (((((RU.put 0 (zD rfl) (.int .i64 k) [.int .i64 k, .int .i64 0, .int .i64 0, .int .i64 0, .int .i64 0] rfl).put 1 (zD rfl) (.int .i64 t) [.int .i64 k, .int .i64 t, .int .i64 0, .int .i64 0, .int .i64 0] rfl).put 2 (zD rfl) (.int .i64 v.1) [.int .i64 k, .int .i64 t, .int .i64 v.1, .int .i64 0, .int .i64 0] rfl).put 3 (zD rfl) (.int .i64 v.2.1) [.int .i64 k, .int .i64 t, .int .i64 v.1, .int .i64 v.2.1, .int .i64 0] rfl).put 4 (zD rfl) (.int .i64 v.2.2) [.int .i64 k, .int .i64 t, .int .i64 v.1, .int .i64 v.2.1, .int .i64 v.2.2] rfl) 2 (zD rfl)
    have d3 := Arr.c (((((RU.put 0 (zD rfl) (.int .i64 k) [.int .i64 k, .int .i64 0, .int .i64 0, .int .i64 0, .int .i64 0] rfl).put 1 (zD rfl) (.int .i64 t) [.int .i64 k, .int .i64 t, .int .i64 0, .int .i64 0, .int .i64 0] rfl).put 2 (zD rfl) (.int .i64 v.1) [.int .i64 k, .int .i64 t, .int .i64 v.1, .int .i64 0, .int .i64 0] rfl).put 3 (zD rfl) (.int .i64 v.2.1) [.int .i64 k, .int .i64 t, .int .i64 v.1, .int .i64 v.2.1, .int .i64 0] rfl).put 4 (zD rfl) (.int .i64 v.2.2) [.int .i64 k, .int .i64 t, .int .i64 v.1, .int .i64 v.2.1, .int .i64 v.2.2] rfl) 3 (zD rfl)
    have d4 := Arr.c (((((RU.put 0 (zD rfl) (.int .i64 k) [.int .i64 k, .int .i64 0, .int .i64 0, .int .i64 0, .int .i64 0] rfl).put 1 (zD rfl) (.int .i64 t) [.int .i64 k, .int .i64 t, .int .i64 0, .int .i64 0, .int .i64 0] rfl).put 2 (zD rfl) (.int .i64 v.1) [.int .i64 k, .int .i64 t, .int .i64 v.1, .int .i64 0, .int .i64 0] rfl).put 3 (zD rfl) (.int .i64 v.2.1) [.int .i64 k, .int .i64 t, .int .i64 v.1, .int .i64 v.2.1, .int .i64 0] rfl).put 4 (zD rfl) (.int .i64 v.2.2) [.int .i64 k, .int .i64 t, .int .i64 v.1, .int .i64 v.2.1, .int .i64 v.2.2] rfl) 4 (zD rfl)
    simp only [List.getElem_cons_zero, List.getElem_cons_succ] at d0 d1 d2 d3 d4
    exact ⟨bodyPost_ret (v := .tuple #[.agg #[.int .i64 k, .int .i64 t, .int .i64 v.1, .int .i64 v.2.1, .int .i64 v.2.2], .bool true]) (by simp [results_cell_tmp Tryz.results83, asAddr, go_sem, d0, d1, d2, d3, d4]) rfl ⟨by rw [HR.out, HO.out, HC.out, HW.out]; rfl, (bel_new (bel_new (bel_new (bel_new (bel_new LU _ _ (by omega) _) _ _ (by omega) _) _ _ (by omega) _) _ _ (by omega) _) _ _ (by omega) _)⟩⟩
end Go.Proofs.YtbophanlmkbfeaaGreatDoor
namespace Go.Proofs.YtbophanlmkbfeaaGreatDoor
open Go.RowKit
def vopS (P : Program) (tbl : List (Ct P)) (id : Nat) (o : Oper) (vt : List Value) (m : Xm) (K : List Value → Xm → Prop) : Prop :=
 match o.op with
 | .slice t x (some y) none none => guardB (okX x && okX y) (match P.underlying t, VE vt x, VE vt y with
  | some .string, .string s, .int .i64 i => (0 ≤ i ∧ i ≤ (s.size : Int)) ∧ K (vput vt o.dst (.string (s.extract i.toNat s.size))) m
  | _, _, _ => False)
 | _ => vop P tbl id o vt m K
def vseqS (P : Program) (tbl : List (Ct P)) (ops : Array Oper) (ids : Nat → Nat) (K : List Value → Xm → Prop) : List Nat → List Value → Xm → Prop
 | [], vt, m => K vt m
 | i :: rest, vt, m =>
  match ops[i]? with
  | none => False
  | some o =>
   match o.guard with
   | none => vopS P tbl (ids i) o vt m (vseqS P tbl ops ids K rest)
   | some _ => False
section
variable {P : Program} {tbl : List (Ct P)} {bs : List Nat} {w0 : World} {rs : Xm} {Q : Exit → Act → World → Prop} {ops : Array Oper} {base : Nat} {K : List Value → Xm → Prop} {ds : List Deferred} {ln : Nat} {bl0 : Bl}
theorem vseqS_sound (hK : ∀ bl vt m a w, K vt m → FR bl vt a.tmps → RW bs w0 bl m w → Le bl0 bl → bl.length = ln → m.length = ln → a.defers = ds → Q .normal a w) :
    ∀ (is : List Nat) (bl : Bl) (vt : List Value) (m : Xm) (a : Act) (w : World), is.Nodup → vseqS P tbl ops (nid base ops) K is vt m → FR bl vt a.tmps → RW bs w0 bl m w → Nw rs bl m →
      (∀ i ∈ is, Fresh P rs ops (nid base ops) bl i) → Le bl0 bl → bl.length = ln → m.length = ln → a.defers = ds → wpOps P ops Q is a w
 | [], bl, vt, m, a, w, _, h, F, R, _, _, hle, hl, hml, hd => hK bl vt m a w h F R hle hl hml hd
 | i :: rest, bl, vt, m, a, w, hnd, h, F, R, N, hf, hle, hl, hml, hd => by
  rw [List.nodup_cons] at hnd
  unfold vseqS at h
  cases ho : ops[i]? with
  | none =>
   rw [ho] at h
   exact h.elim
  | some o =>
   rw [ho] at h
   dsimp only at h
   cases hg : o.guard with
   | some _ => rw [hg] at h; exact h.elim
   | none =>
    rw [hg] at h
    dsimp only at h
    unfold vopS at h
    split at h
    ·rename_i t x y hop
     rw [guardB_iff] at h
     obtain ⟨hx, h⟩ := h
     rw [Bool.and_eq_true] at hx
     split at h
     case h_2 => exact h.elim
     rename_i s n hu hs hn
     have h1 := F.eval hx.1
     rw [hs] at h1
     have h1 : a.eval x = .string s := h1
     have h2 := F.eval hx.2
     rw [hn] at h2
     have h2 : a.eval y = .int .i64 n := h2
     have hr := run_slice_string_from_if (P := P) w t s .i64 n hu
     rw [if_pos h.1] at hr
     refine ops_val ho hg (v := .string (s.extract n.toNat s.size)) (w' := w) (by simp [execOp, hop, h1, h2, Instr.sliceAt, run_under hu w, hr]) ?_
     exact vseqS_sound hK rest bl _ m _ w hnd.2 h.2 (F.put (.same rfl) _) R N (fun j hj => hf j (List.mem_cons_of_mem _ hj)) hle hl hml ((put_defers _ _ _).trans hd)
    ·rw [wpOps_cons]
     unfold wpOp
     rw [ho]
     dsimp only
     rw [show Region.wanted o (yielded ops a.tmps) = true by unfold Region.wanted; rw [hg], if_pos rfl]
     refine .inl (Oper.wp_mono ?_ (vop_wp (Q := Q) h F R N (hf i List.mem_cons_self o ho)))
     rintro a' w' ⟨bl', v, m', hbl, hmm, hle', h1, h3, hdef, F', R', N', hK'⟩
     exact vseqS_sound hK rest bl' _ m' a' w' hnd.2 hK' F' R' N' (fun j hj => (hf j (List.mem_cons_of_mem _ hj)).next ho (by rintro rfl; exact hnd.1 hj) h1 h3) (hle.trans hle') (hbl.trans hl) (hmm.trans hml) (hdef.trans hd)
def strBy (P : Program) (tbl : List (Ct P)) (ops : Array Oper) (draw : Bool) (K : List Value → Xm → Prop) (vt : List Value) (m : Xm) : Prop :=
 guardB (resOk P ops && !draw) (vseqS P tbl ops (nid m.length ops) K (List.range ops.size) vt (m ++ newCells P ops))
theorem strBy_sound {id : Nat} {draw : Bool} {bl : Bl} {vt : List Value} {m : Xm} {a : Act} {w : World} (h : strBy P tbl ops draw K vt m) (r : Rl bs w0 ds bl0 bl vt m a w) (hK : ∀ bl vt m a w, K vt m → Rl bs w0 ds bl0 bl vt m a w → Q .normal a w) : (Code.region id ops draw).wp P Q a w := by
 unfold strBy at h
 rw [guardB_iff, Bool.and_eq_true] at h
 obtain ⟨⟨hr, hd⟩, h⟩ := h
 cases draw
 ·refine wp_region (vseqS_sound (ds := ds) (rs := m ++ newCells P ops) (ln := m.length + (newCells P ops).length) (fun bl vt m a w hk F R hle h1 h2 h3 => hK bl vt m a w hk ⟨F, R, hle, h1.trans h2.symm, h3⟩) _ _ vt _ a w List.nodup_range h (r.F.mono (Le.wide bl (newCells P ops).length)) (r.R.wide _ _) (fun _ _ => rfl) (fun i _ => fresh_start r.len hr i) (r.le.trans (Le.wide bl _)) ?_ ?_ r.defers)
  ·rw [List.length_append, List.length_replicate, r.len]
  ·rw [List.length_append]
 ·cases hd
def sureBy (P : Program) (tbl : List (Ct P)) (dirty : Nat → List Nat) (id d : Nat) (v : Bool) (ops : Array Oper) (draw : Bool) (K : List Value → Xm → Prop) (vt : List Value) (m : Xm) : Prop :=
 vregion P tbl dirty id ops draw (fun vt m => vt.getD d undef = .bool v ∧ K (vt.set d (.bool v)) m) vt m
theorem sureBy_sound (hm : P.follows .mixedOrders = true) {dirty : Nat → List Nat} {id d : Nat} {v draw : Bool} {bl : Bl} {vt : List Value} {m : Xm} {a : Act} {w : World} (h : sureBy P tbl dirty id d v ops draw K vt m) (r : Rl bs w0 ds bl0 bl vt m a w) (hK : ∀ bl vt m a w, K vt m → Rl bs w0 ds bl0 bl vt m a w → Q .normal a w) : (Code.region id ops draw).wp P Q a w :=
 vregion_sound hm (fun bl _ m a w hk hr => hK bl _ m a w hk.2 ⟨hr.F.setSame hk.1, hr.R, hr.le, hr.len, hr.defers⟩) h r
end
end Go.Proofs.YtbophanlmkbfeaaGreatDoor
namespace Go.Proofs.YtbophanlmkbfeaaGreatDoor
open Go.RowKit
def stepS (u d : Int) (p : Int × Bool) : Int × Bool :=
 subS (partS (mulS p.2 u p.1).2 (mulS p.2 u p.1).1 1 d).2 1099511627776 (partS (mulS p.2 u p.1).2 (mulS p.2 u p.1).1 1 d).1
def serS (dd : Int → Int) (u : Int) : Nat → Int × Bool → Int × Bool
 | 0, p => p
 | n + 1, p => serS dd u n (stepS u (dd (n + 1)) p)
def dSin (n : Int) : Int := 2 * n * (2 * n + 1)
def dCos (n : Int) : Int := (2 * n - 1) * 2 * n
def cosS (bad : Bool) (t : Int) : Int × Bool := serS dCos (mulS bad t t).1 10 (1099511627776, (mulS bad t t).2)
def sinV (bad : Bool) (t : Int) : Int × Bool := serS dSin (mulS bad t t).1 10 (1099511627776, (mulS bad t t).2)
def sinS (bad : Bool) (t : Int) : Int × Bool := mulS (sinV bad t).2 t (sinV bad t).1
def rest4 (bad : Bool) (a : Int) : Int := (modS bad a 6908435304716).1
def badM (bad : Bool) (a : Int) : Bool := (modS bad a 6908435304716).2
def quart (bad : Bool) (a : Int) : Int := rest4 bad a / 1727108826179
def inq (bad : Bool) (a : Int) : Int := rest4 bad a - quart bad a * 1727108826179
def neg1 (p : Int × Bool) : Int × Bool := (-p.1, p.2)
def pick (k : Int) (bad : Bool) (t : Int) : Int × Bool :=
 if k = 0 then sinS bad t else if k = 1 then cosS bad t else if k = 2 then neg1 (sinS bad t) else neg1 (cosS bad t)
def sinA (bad : Bool) (a : Int) : Int × Bool := pick (quart bad a) (badM bad a) (inq bad a)
def cosA (bad : Bool) (a : Int) : Int × Bool := pick (if quart bad a = 3 then 0 else quart bad a + 1) (badM bad a) (inq bad a)
end Go.Proofs.YtbophanlmkbfeaaGreatDoor

namespace Go.Proofs.YtbophanlmkbfeaaGreatDoor
end Go.Proofs.YtbophanlmkbfeaaGreatDoor
namespace Go.Proofs.YtbophanlmkbfeaaGreatDoor
end Go.Proofs.YtbophanlmkbfeaaGreatDoor
namespace Go.Proofs.YtbophanlmkbfeaaGreatDoor
end Go.Proofs.YtbophanlmkbfeaaGreatDoor
namespace Go.Proofs.YtbophanlmkbfeaaGreatDoor
structure Nr (K S P : Int) : Prop where
 lo : -(3 * K) ≤ S * K - 1099511627776 * P
 hi : S * K - 1099511627776 * P ≤ 3 * K
 bl : -2199023255552 ≤ S
 bh : S ≤ 2199023255552
theorem Nr.neg {K S P : Int} (h : Nr K S P) : Nr K (-S) (-P) := by
 have h1 := h.lo
 have h2 := h.hi
 have h3 := h.bl
 have h4 := h.bh
 constructor
 ·rw [Int.neg_mul]; omega
 ·rw [Int.neg_mul]; omega
 ·omega
 ·omega
end Go.Proofs.YtbophanlmkbfeaaGreatDoor
