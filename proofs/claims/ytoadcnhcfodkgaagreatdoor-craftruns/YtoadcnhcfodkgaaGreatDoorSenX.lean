/-
  What counts say, by the symbolic run, for the seat YtoadcnhcfodkgaaGreatDoor.
-/
import Derived.Test.YtoadcnhcfodkgaaGreatDoorAxP
import Derived.Test.YtoadcnhcfodkgaaGreatDoorTlX
import Derived.Test.YtoadcnhcfodkgaaGreatDoorVcX
import Derived.Test.YtoadcnhcfodkgaaGreatDoorSenLeaf
namespace Go.Proofs.YtoadcnhcfodkgaaGreatDoor
open Go.RowKit

/-- A function that answers as told where what it is handed is as told. -/
def predCt (P : Program) (fn : Nat) {A : Type} (d : Dl A) (S : A → (Value → Prop) → Prop) (mono : ∀ x K K', (∀ v, K v → K' v) → S x K → S x K') (go : ∀ (args : Array Value) (w : World), (callFunc fn args).run P w = .ok (.enter fn args) w)
    (h : ∀ x w, GW w → ∀ K, S x K → Calls P fn (d.enc x).toArray w fun e w' => ∃ v, e = .returned v ∧ isP v = false ∧ K v ∧ Below w.heap.size w w') : Ct P where
  fn := fn
  sp := fun args m K => match d.dec args with
    | some x => S x (fun v => K v m)
    | none => False
  go := go
  mono := fun hK hs => by
    split at hs
    · exact mono _ _ _ (fun v hv => hK v _ hv) hs
    · exact hs
  keep := fun {args m K} hs => by
    split at hs
    · exact mono _ _ _ (fun v hv => ⟨hv, rfl, fun _ _ => rfl⟩) hs
    · exact hs
  ok := fun {bs w0 bl m w args args' K} R hlen hv hs => by
    split at hs
    · rename_i x hd
      have hl := d.law _ _ hd
      rw [args_same hlen hv (by rw [hl]; exact d.np x), hl]
      refine Calls.mono (h x w R.gwAt _ hs) ?_
      rintro e w' ⟨v, rfl, hp, hk, Kp⟩
      exact ⟨_, _, _, rfl, .same hp, hk, R.pure Kp⟩
    · exact hs.elim
def Pla (s : ByteArray) (i : Int) : Prop := 0 ≤ i ∧ i < 100 ∧ 2 * i.toNat + 1 < s.size
def sgnCt : Ct Tryz.prog := predCt Tryz.prog 281 (then' cS (lone' cI)) (fun x K => Pla x.1 x.2 ∧ K (.int .i64 (sg (cnt x.1 (2 * x.2.toNat))))) (fun _ _ _ hK hs => ⟨hs.1, hK _ hs.2⟩) (go_of Tryz.func281 (by kernel_rfl) (by kernel_rfl))
  (fun x w _ K hs => Calls.mono (ssigned_any x.1 x.2 x.2.toNat w (by have := hs.1.1; omega) hs.1.2.2 (by have := hs.1.2.1; omega)) (by rintro e w' ⟨rfl, hb⟩; exact ⟨_, rfl, rfl, hs.2, hb⟩))
def plnCt : Ct Tryz.prog := predCt Tryz.prog 282 (then' cS (lone' cI)) (fun x K => Pla x.1 x.2 ∧ K (.int .i64 (cnt x.1 (2 * x.2.toNat) : Nat))) (fun _ _ _ hK hs => ⟨hs.1, hK _ hs.2⟩) (go_of Tryz.func282 (by kernel_rfl) (by kernel_rfl))
  (fun x w _ K hs => Calls.mono (splain_any x.1 x.2 x.2.toNat w (by have := hs.1.1; omega) hs.1.2.2 (by have := hs.1.2.1; omega)) (by rintro e w' ⟨rfl, hb⟩; exact ⟨_, rfl, rfl, hs.2, hb⟩))
def normCt : Ct Tryz.prog := flowCt Tryz.prog 46 (lone' (cT 3)) (fun bad x => vNormS bad (x.1, x.2.1, x.2.2.1)) cI (go_of Tryz.func46 (by kernel_rfl) (by kernel_rfl)) (fun b bad x w hg hb hw => vNorm_any b bad (x.1, x.2.1, x.2.2.1) w hw hg hb)
def unitCt : Ct Tryz.prog := flowCt Tryz.prog 240 (lone' (cT 3)) (fun bad x => (((vUnitS bad (x.1, x.2.1, x.2.2.1)).1.1, (vUnitS bad (x.1, x.2.1, x.2.2.1)).1.2.1, (vUnitS bad (x.1, x.2.1, x.2.2.1)).1.2.2, ()), (vUnitS bad (x.1, x.2.1, x.2.2.1)).2)) (cT 3) (go_of Tryz.func240 (by kernel_rfl) (by kernel_rfl)) (fun b bad x w hg hb hw => vUnit_any b bad (x.1, x.2.1, x.2.2.1) w hw hg hb)
def v3T (v : V3) : Tup 3 := (v.1, v.2.1, v.2.2, ())
abbrev kSaid : Dc (Tup 3 × Bool) := two' (cT 3) cB
/-! ### Rates -/
def ratT (s : ByteArray) (i : Int) (A C : Prop) : Prop := Pla s i ∧ vif (decide (sg (cnt s (2 * i.toNat)) > 30000)) A (vif (decide (sg (cnt s (2 * i.toNat)) < -30000)) A C)
theorem ratT_of {s : ByteArray} {i : Int} {A C : Prop} (hp : Pla s i) (hA : ¬ (-30000 ≤ sg (cnt s (2 * i.toNat)) ∧ sg (cnt s (2 * i.toNat)) ≤ 30000) → A) (hC : -30000 ≤ sg (cnt s (2 * i.toNat)) ∧ sg (cnt s (2 * i.toNat)) ≤ 30000 → C) : ratT s i A C := by
  refine ⟨hp, ?_⟩
  by_cases h1 : sg (cnt s (2 * i.toNat)) > 30000
  · rw [decide_eq_true h1]; exact hA (by omega)
  · rw [decide_eq_false h1]
    by_cases h2 : sg (cnt s (2 * i.toNat)) < -30000
    · rw [decide_eq_true h2]; exact hA (by omega)
    · rw [decide_eq_false h2]; exact hC ⟨by omega, by omega⟩
set_option maxRecDepth 100000 in
theorem rates_at (s : ByteArray) (h : 6 ≤ s.size) (w : World) (hw : GW w) : Calls Tryz.prog 259 ((lone' cS).enc s).toArray w fun e w' => e = .returned (kSaid.enc (v3T (if gyroOk (sg (cnt s 0)) (sg (cnt s 2)) (sg (cnt s 4)) then gyroV (sg (cnt s 0)) (sg (cnt s 2)) (sg (cnt s 4)) else (0, 0, 0)), gyroOk (sg (cnt s 0)) (sg (cnt s 2)) (sg (cnt s 4)))) ∧ Below w.heap.size w w' := by
  refine pure_at (d := lone' cS) (k := kSaid) (x := s) (y := (v3T (if gyroOk (sg (cnt s 0)) (sg (cnt s 2)) (sg (cnt s 4)) then gyroV (sg (cnt s 0)) (sg (cnt s 2)) (sg (cnt s 4)) else (0, 0, 0)), gyroOk (sg (cnt s 0)) (sg (cnt s 2)) (sg (cnt s 4)))) (tbl := [sgnCt]) (dirty := fun _ => []) (n := 5) xmixA Tryz.func259 rfl (fun Post hP => ?_) w hw
  refine Eq.mpr (β := ratT s 0 (PJ kSaid Post ((0, 0, 0, ()), false)) (ratT s 1 (PJ kSaid Post ((0, 0, 0, ()), false)) (ratT s 2 (PJ kSaid Post ((0, 0, 0, ()), false)) (PJ kSaid Post ((IntKind.i64.wrap (sg (cnt s (2 * (0 : Int).toNat)) * 33554432), IntKind.i64.wrap (sg (cnt s (2 * (1 : Int).toNat)) * 33554432), IntKind.i64.wrap (sg (cnt s (2 * (2 : Int).toNat)) * 33554432), ()), true))))) (by kernel_rfl) ?_
  have key : ∀ a b c : Int, ¬ (gyroOk a b c = true) → PJ kSaid Post (v3T (if gyroOk a b c then gyroV a b c else (0, 0, 0)), gyroOk a b c) → PJ kSaid Post ((0, 0, 0, ()), false) := by
    intro a b c hn hq
    rw [if_neg hn, Bool.eq_false_iff.2 hn] at hq
    exact hq
  have hok : ∀ a b c : Int, gyroOk a b c = true ↔ ((-30000 ≤ a ∧ a ≤ 30000) ∧ (-30000 ≤ b ∧ b ≤ 30000)) ∧ (-30000 ≤ c ∧ c ≤ 30000) := by
    intro a b c
    unfold gyroOk gyroIn
    simp
  refine ratT_of ⟨by decide, by decide, by show 2 * 0 + 1 < s.size; omega⟩ (fun hn => key _ _ _ (fun k => hn ((hok _ _ _).1 k).1.1) hP) (fun h0 => ?_)
  refine ratT_of ⟨by decide, by decide, by show 2 * 1 + 1 < s.size; omega⟩ (fun hn => key _ _ _ (fun k => hn ((hok _ _ _).1 k).1.2) hP) (fun h1 => ?_)
  refine ratT_of ⟨by decide, by decide, by show 2 * 2 + 1 < s.size; omega⟩ (fun hn => key _ _ _ (fun k => hn ((hok _ _ _).1 k).2) hP) (fun h2 => ?_)
  have hg : gyroOk (sg (cnt s 0)) (sg (cnt s 2)) (sg (cnt s 4)) = true := (hok _ _ _).2 ⟨⟨h0, h1⟩, h2⟩
  rw [if_pos hg, hg] at hP
  have e : ∀ x : Int, -30000 ≤ x ∧ x ≤ 30000 → IntKind.i64.wrap (x * 33554432) = x * 33554432 := fun x hx => by
    rw [IntKind.wrap_i64]
    omega
  rw [e _ h0, e _ h1, e _ h2]
  exact hP
/-! ### Strength -/
set_option maxRecDepth 100000 in
theorem strength_at (s : ByteArray) (h : 6 ≤ s.size) (w : World) (hw : GW w) : Calls Tryz.prog 260 ((lone' cS).enc s).toArray w fun e w' => e = .returned (kSaid.enc (v3T (magS (sg (cnt s 0)) (sg (cnt s 2)) (sg (cnt s 4))).1, magOk (sg (cnt s 0)) (sg (cnt s 2)) (sg (cnt s 4)))) ∧ Below w.heap.size w w' := by
  refine pure_at (d := lone' cS) (k := kSaid) (x := s) (y := (v3T (magS (sg (cnt s 0)) (sg (cnt s 2)) (sg (cnt s 4))).1, magOk (sg (cnt s 0)) (sg (cnt s 2)) (sg (cnt s 4)))) (tbl := [sgnCt, tlPart, normCt]) (dirty := fun _ => []) (n := 5) xmixA Tryz.func260 rfl (fun Post hP => ?_) w hw
  refine Eq.mpr (β := Pla s 0 ∧ Pla s 1 ∧ Pla s 2 ∧ vif (decide (1099511627776 ≤ magN (sg (cnt s 0)) (sg (cnt s 2)) (sg (cnt s 4)))) (PJ kSaid Post (v3T (magS (sg (cnt s 0)) (sg (cnt s 2)) (sg (cnt s 4))).1, decide (magN (sg (cnt s 0)) (sg (cnt s 2)) (sg (cnt s 4)) ≤ 131941395333120))) (PJ kSaid Post (v3T (magS (sg (cnt s 0)) (sg (cnt s 2)) (sg (cnt s 4))).1, false))) (by kernel_rfl) ?_
  refine ⟨⟨by decide, by decide, by show 2 * 0 + 1 < s.size; omega⟩, ⟨by decide, by decide, by show 2 * 1 + 1 < s.size; omega⟩, ⟨by decide, by decide, by show 2 * 2 + 1 < s.size; omega⟩, ?_⟩
  unfold magOk at hP
  cases k : decide (1099511627776 ≤ magN (sg (cnt s 0)) (sg (cnt s 2)) (sg (cnt s 4)))
  · rw [k] at hP
    exact hP
  · rw [k] at hP
    exact hP
/-! ### Direction -/
def dirR (s : ByteArray) (i j : Int) (seen : Bool) (C : Bool → Prop) : Prop := Pla s i ∧ Pla s j ∧ vif seen (C true) (vif (decide (((cnt s (2 * i.toNat) : Nat) : Int) ≥ 2000)) (C true) (C (decide (((cnt s (2 * j.toNat) : Nat) : Int) ≥ 2000))))
theorem dirR_of {s : ByteArray} {i j : Int} {seen : Bool} {C : Bool → Prop} (hi : Pla s i) (hj : Pla s j) (h : C (seen || decide (((cnt s (2 * i.toNat) : Nat) : Int) ≥ 2000) || decide (((cnt s (2 * j.toNat) : Nat) : Int) ≥ 2000))) : dirR s i j seen C := by
  refine ⟨hi, hj, ?_⟩
  cases seen
  · cases k : decide (((cnt s (2 * i.toNat) : Nat) : Int) ≥ 2000)
    · rw [k] at h
      exact h
    · rw [k] at h
      exact h
  · exact h
def dirV (s : ByteArray) : V3 := (IntKind.i64.wrap (IntKind.i64.wrap (((cnt s (2 * (0 : Int).toNat) : Nat) : Int) - ((cnt s (2 * (1 : Int).toNat) : Nat) : Int)) * 16777216), IntKind.i64.wrap (IntKind.i64.wrap (((cnt s (2 * (2 : Int).toNat) : Nat) : Int) - ((cnt s (2 * (3 : Int).toNat) : Nat) : Int)) * 16777216), IntKind.i64.wrap (IntKind.i64.wrap (((cnt s (2 * (4 : Int).toNat) : Nat) : Int) - ((cnt s (2 * (5 : Int).toNat) : Nat) : Int)) * 16777216))
def dirE (s : ByteArray) (Post : Value → Prop) (b : Bool) : Prop := vif (!b) (PJ kSaid Post ((0, 0, 0, ()), false)) (PJ kSaid Post (v3T (vUnitS false (dirV s)).1, !(vUnitS false (dirV s)).2))
set_option maxRecDepth 100000 in
theorem direction_at (s : ByteArray) (h : 12 ≤ s.size) (w : World) (hw : GW w) : Calls Tryz.prog 261 ((lone' cS).enc s).toArray w fun e w' => e = .returned (kSaid.enc (v3T (if lit (cnt s 0 : Nat) (cnt s 2 : Nat) (cnt s 4 : Nat) (cnt s 6 : Nat) (cnt s 8 : Nat) (cnt s 10 : Nat) then (sunS (cnt s 0 : Nat) (cnt s 2 : Nat) (cnt s 4 : Nat) (cnt s 6 : Nat) (cnt s 8 : Nat) (cnt s 10 : Nat)).1 else (0, 0, 0)), sunOk (cnt s 0 : Nat) (cnt s 2 : Nat) (cnt s 4 : Nat) (cnt s 6 : Nat) (cnt s 8 : Nat) (cnt s 10 : Nat))) ∧ Below w.heap.size w w' := by
  refine pure_at (d := lone' cS) (k := kSaid) (x := s) (y := (v3T (if lit (cnt s 0 : Nat) (cnt s 2 : Nat) (cnt s 4 : Nat) (cnt s 6 : Nat) (cnt s 8 : Nat) (cnt s 10 : Nat) then (sunS (cnt s 0 : Nat) (cnt s 2 : Nat) (cnt s 4 : Nat) (cnt s 6 : Nat) (cnt s 8 : Nat) (cnt s 10 : Nat)).1 else (0, 0, 0)), sunOk (cnt s 0 : Nat) (cnt s 2 : Nat) (cnt s 4 : Nat) (cnt s 6 : Nat) (cnt s 8 : Nat) (cnt s 10 : Nat))) (tbl := [plnCt, unitCt]) (dirty := fun i => if i = 14 then [1002] else []) (n := 5) xmixA Tryz.func261 rfl (fun Post hP => ?_) w hw
  refine Eq.mpr (β := dirR s 0 1 false fun b => dirR s 2 3 b fun b => dirR s 4 5 b fun b => dirE s Post b) (by kernel_rfl) ?_
  have pl : ∀ i : Nat, i < 6 → Pla s i := fun i hi => ⟨by omega, by omega, by rw [Int.toNat_natCast]; omega⟩
  refine dirR_of (pl 0 (by decide)) (pl 1 (by decide)) (dirR_of (pl 2 (by decide)) (pl 3 (by decide)) (dirR_of (pl 4 (by decide)) (pl 5 (by decide)) ?_))
  have hv : dirV s = sunD (cnt s 0 : Nat) (cnt s 2 : Nat) (cnt s 4 : Nat) (cnt s 6 : Nat) (cnt s 8 : Nat) (cnt s 10 : Nat) := by
    have e : ∀ a b : Nat, a < 65536 → b < 65536 → IntKind.i64.wrap (IntKind.i64.wrap ((a : Int) - (b : Int)) * 16777216) = ((a : Int) - b) * 16777216 := fun a b ha hb => by
      rw [IntKind.wrap_i64, IntKind.wrap_i64]
      omega
    unfold dirV sunD
    rw [e _ _ (cnt_lt _ _) (cnt_lt _ _), e _ _ (cnt_lt _ _) (cnt_lt _ _), e _ _ (cnt_lt _ _) (cnt_lt _ _)]
    rfl
  have hb : (false || decide (((cnt s (2 * (0 : Int).toNat) : Nat) : Int) ≥ 2000) || decide (((cnt s (2 * (1 : Int).toNat) : Nat) : Int) ≥ 2000) || decide (((cnt s (2 * (2 : Int).toNat) : Nat) : Int) ≥ 2000) || decide (((cnt s (2 * (3 : Int).toNat) : Nat) : Int) ≥ 2000) || decide (((cnt s (2 * (4 : Int).toNat) : Nat) : Int) ≥ 2000) || decide (((cnt s (2 * (5 : Int).toNat) : Nat) : Int) ≥ 2000)) = lit (cnt s 0 : Nat) (cnt s 2 : Nat) (cnt s 4 : Nat) (cnt s 6 : Nat) (cnt s 8 : Nat) (cnt s 10 : Nat) := rfl
  rw [hb]
  unfold dirE
  rw [hv]
  unfold sunOk at hP
  cases k : lit (cnt s 0 : Nat) (cnt s 2 : Nat) (cnt s 4 : Nat) (cnt s 6 : Nat) (cnt s 8 : Nat) (cnt s 10 : Nat)
  · rw [k] at hP
    exact hP
  · rw [k] at hP
    exact hP
/-! ### Said -/
set_option maxRecDepth 100000 in
theorem said_by {k : Int} {s : ByteArray} {y : Tup 3 × Bool} (w : World) (hw : GW w)
    (h : (k = 1 ∧ ∀ w, GW w → Calls Tryz.prog 259 ((lone' cS).enc s).toArray w fun e w' => e = .returned (kSaid.enc y) ∧ Below w.heap.size w w') ∨ (k = 3 ∧ ∀ w, GW w → Calls Tryz.prog 260 ((lone' cS).enc s).toArray w fun e w' => e = .returned (kSaid.enc y) ∧ Below w.heap.size w w') ∨ ((k ≠ 1 ∧ k ≠ 3) ∧ ∀ w, GW w → Calls Tryz.prog 261 ((lone' cS).enc s).toArray w fun e w' => e = .returned (kSaid.enc y) ∧ Below w.heap.size w w')) :
    Calls Tryz.prog 200 ((then' cI (lone' cS)).enc (k, s)).toArray w fun e w' => e = .returned (kSaid.enc y) ∧ Below w.heap.size w w' := by
  rcases h with ⟨rfl, h⟩ | ⟨rfl, h⟩ | ⟨⟨n1, n3⟩, h⟩
  · refine pure_at (d := then' cI (lone' cS)) (k := kSaid) (x := (1, s)) (y := y) (tbl := [ctAt Tryz.prog 259 (lone' cS) kSaid s y (go_of Tryz.func259 (by kernel_rfl) (by kernel_rfl)) h]) (dirty := fun _ => []) (n := 4) xmixA Tryz.func200 rfl (fun Post hP => ?_) w hw
    exact Eq.mpr (β := (lone' cS).enc s = (lone' cS).enc s ∧ PJ kSaid Post y) (by kernel_rfl) ⟨rfl, hP⟩
  · refine pure_at (d := then' cI (lone' cS)) (k := kSaid) (x := (3, s)) (y := y) (tbl := [ctAt Tryz.prog 260 (lone' cS) kSaid s y (go_of Tryz.func260 (by kernel_rfl) (by kernel_rfl)) h]) (dirty := fun _ => []) (n := 4) xmixA Tryz.func200 rfl (fun Post hP => ?_) w hw
    exact Eq.mpr (β := (lone' cS).enc s = (lone' cS).enc s ∧ PJ kSaid Post y) (by kernel_rfl) ⟨rfl, hP⟩
  · refine pure_at (d := then' cI (lone' cS)) (k := kSaid) (x := (k, s)) (y := y) (tbl := [ctAt Tryz.prog 261 (lone' cS) kSaid s y (go_of Tryz.func261 (by kernel_rfl) (by kernel_rfl)) h]) (dirty := fun _ => []) (n := 4) xmixA Tryz.func200 rfl (fun Post hP => ?_) w hw
    refine Eq.mpr (β := vif (decide (k = 1)) False (vif (decide (k = 3)) False ((lone' cS).enc s = (lone' cS).enc s ∧ PJ kSaid Post y))) (by kernel_rfl) ?_
    rw [decide_eq_false n1, decide_eq_false n3]
    exact ⟨rfl, hP⟩
def vecV (v : V3) : Value := .agg #[.int .i64 v.1, .int .i64 v.2.1, .int .i64 v.2.2]
def gyroS (a b c : Int) : V3 := if gyroOk a b c then gyroV a b c else (0, 0, 0)
def sunR (a b c d e f : Int) : V3 := if lit a b c d e f then (sunS a b c d e f).1 else (0, 0, 0)
/-- What said answers of the counts of a kind. -/
def saidR (k : Int) (s : ByteArray) : V3 :=
  if k = 1 then gyroS (sg (cnt s 0)) (sg (cnt s 2)) (sg (cnt s 4))
  else if k = 3 then (magS (sg (cnt s 0)) (sg (cnt s 2)) (sg (cnt s 4))).1
  else sunR (cnt s 0 : Nat) (cnt s 2 : Nat) (cnt s 4 : Nat) (cnt s 6 : Nat) (cnt s 8 : Nat) (cnt s 10 : Nat)
theorem ssaid_any (k : Int) (s : ByteArray) (w : World) (hw : GW w) (h : 6 ≤ s.size) (h2 : k ≠ 1 → k ≠ 3 → 12 ≤ s.size) :
    Calls Tryz.prog 200 #[.int .i64 k, .string s] w fun e w' => e = .returned (.tuple #[vecV (saidR k s), .bool (saidOk k s 0)]) ∧ Below w.heap.size w w' := by
  refine said_by (k := k) (s := s) (y := (v3T (saidR k s), saidOk k s 0)) w hw ?_
  unfold saidR saidOk
  by_cases c1 : k = 1
  · rw [if_pos c1, if_pos c1]
    exact .inl ⟨c1, rates_at s h⟩
  rw [if_neg c1, if_neg c1]
  by_cases c3 : k = 3
  · rw [if_pos c3, if_pos c3]
    exact .inr (.inl ⟨c3, strength_at s h⟩)
  rw [if_neg c3, if_neg c3]
  exact .inr (.inr ⟨⟨c1, c3⟩, direction_at s (h2 c1 c3)⟩)
end Go.Proofs.YtoadcnhcfodkgaaGreatDoor
