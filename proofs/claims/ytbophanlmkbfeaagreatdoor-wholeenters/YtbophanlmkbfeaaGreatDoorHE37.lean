/-
A part.
A part.
A part.
A part.
A part.
A part.
-/
import Derived.Test.YtbophanlmkbfeaaGreatDoorRows
import Derived.Deep.Slices
import Derived.ChangeSlices
import Derived.ChangeSame
import Derived.Carry
import Derived.WalkKit
import Derived.ProofKit
import Derived.OpenShut
import Derived.Lib.SmallJoins
import Derived.Lib.LaidTab
import Derived.LaidMore
import Derived.MakeChecks
import Derived.Test.YtbophanlmkbfeaaGreatDoorHE34
import Derived.Test.YtbophanlmkbfeaaGreatDoorHE35
import Derived.Test.YtbophanlmkbfeaaGreatDoorHE36
import Derived.Test.YtbophanlmkbfeaaGreatDoorHE33
import Derived.Test.YtbophanlmkbfeaaGreatDoorHE02
import Derived.Test.YtbophanlmkbfeaaGreatDoorHE12
namespace Go.Proofs.YtbophanlmkbfeaaGreatDoor
open Go.RowKit
def senQ (x : Fra) (K : Value → Prop) : Prop :=
 vif (readOk x.1 x.2) (vif (decide (x.1 = 1)) (K (kRd.enc ((1, (readT x).1.2), true))) (vif (decide (x.1 = 2)) (K (kRd.enc ((2, (readT x).1.2), true))) (K (kRd.enc ((3, (readT x).1.2), true))))) (K (kRd.enc zero5))
theorem vif_mono {b : Bool} {A A' B B' : Prop} (h : A → A') (k : B → B') (x : vif b A B) : vif b A' B' := by
 cases b
 ·exact k x
 ·exact h x
theorem senQ_mono (x : Fra) (K K' : Value → Prop) (hK : ∀ v, K v → K' v) (h : senQ x K) : senQ x K' := vif_mono (vif_mono (hK _) (vif_mono (hK _) (hK _))) (hK _) h
theorem readOk_kind {k : Int} {s : ByteArray} (h : readOk k s = true) : k = 1 ∨ k = 2 ∨ k = 3 := by
 unfold readOk formOk at h
 simp only [Bool.and_eq_true, Bool.or_eq_true, decide_eq_true_eq] at h
 omega
theorem senQ_at (x : Fra) {K : Value → Prop} (h : senQ x K) : K (kRd.enc (readT x)) := by
 obtain ⟨k, s⟩ := x
 unfold senQ at h
 have hr := readT_if k s
 cases ho : readOk k s
 ·rw [ho] at h hr
  rw [hr]
  exact h
 ·rw [ho] at h hr
  have hr : readT (k, s) = ((k, (readT (k, s)).1.2), true) := by rw [hr]; rfl
  have hk := readOk_kind ho
  rw [hr]
  by_cases h1 : k = 1
  ·rw [decide_eq_true h1] at h; subst h1; exact h
  ·rw [decide_eq_false h1] at h
   by_cases h2 : k = 2
   ·rw [decide_eq_true h2] at h; subst h2; exact h
   ·rw [decide_eq_false h2] at h
    obtain rfl : k = 3 := by omega
    exact h
def rsenCt : Ct Tryz.prog := predCt Tryz.prog 18 (lone' cFra) senQ senQ_mono (go_of Tryz.func18 (by kernel_rfl) (by kernel_rfl))
 (fun x w hw K hs => Calls.mono (rsen_any x.1 x.2 w hw) (by rintro e w' ⟨rfl, hb⟩; exact ⟨_, rfl, rfl, senQ_at x hs, hb⟩))
def rfreshT (x : Tup 5 × Int) : Bool := if x.1.2.1 > x.2 then false else decide (IntKind.u64.wrap (IntKind.u64.wrap x.2 - IntKind.u64.wrap x.1.2.1) ≤ 500)
theorem rfresh_ok : PureOk Tryz.prog 19 (then' (cT 5) (lone' cI)) rfreshT cB := pure_sx (tbl := []) (dirty := fun _ => []) (n := 4) xmixA Tryz.func19 rfl (fun x Post => by
    refine Eq.trans (b := ?m) ?x (Eq.symm ?y)
    case y => unfold rfreshT; simp only [← vif_gt (K := PJ cB Post)]; exact rfl
    case x => kernel_rfl)
def rfreshCt : Ct Tryz.prog := pureCt Tryz.prog 19 (then' (cT 5) (lone' cI)) rfreshT cB (go_of Tryz.func19 (by kernel_rfl) (by kernel_rfl)) rfresh_ok
theorem rfresh_is (x : Tup 5 × Int) : rfreshT x = freshT x := by
 unfold rfreshT freshT
 by_cases h : x.1.2.1 ≤ x.2
 ·rw [if_neg (by omega), if_pos h]
 ·rw [if_pos (by omega), if_neg h]
abbrev ThS := Bool × Bool × Bool × Bool
def enK : List Nat := [4, 5, 12, 57, 58, 56]
def enF (n i : Int) (sl : Value) (d : Nat → Value) : List Value := frm [(4, ptr 0), (5, ptr 1), (12, ptr 3), (57, .int .i64 n), (58, .int .i64 i), (56, sl)] d 98
def enE (n i : Int) (sl : Value) (d : Nat → Value) : List Value := vset ((enF n i sl d).set 59 (.bool (decide (i < n)))) (.tmp 59) false
def enM (c e : Cra) (T : Tel) (S : ThS) (l : List (UInt8 × List UInt8)) : Xm := [dCra.enc c, dCra.enc e, tEnc 13 T, [.bool S.1, .bool S.2.1, .bool S.2.2.1, .bool S.2.2.2], cellsOf l]
abbrev enT : List (Ct Tryz.prog) := [rsenCt, rfreshCt]
def enV (l : List (UInt8 × List UInt8)) : Ov := fun id => match id with
 | 14 => some fun _ _ => nScan
 | 15 => some fun _ _ => nMany enK l
 | 17 => some fun _ _ => nOne l
 | 21 => some (cutBy Tryz.prog enT (fun _ => []) 21 enK 98 5)
 | _ => none
def enB (P : Program) : Code := cpart [true, true, true, true, true, true, true, true, false, true] (bodyOf P 16)
def enL (P : Program) : Code := cpart [false, false] (enB P)
def enZ (P : Program) : Code := cpart [true, true, true, true, true, true, true, true, true] (bodyOf P 16)
abbrev enS (l : List (UInt8 × List UInt8)) (n : Nat) (c : Code) : VQ → List Value → Xm → Prop := swpO Tryz.prog enT (fun _ => []) n (enV l) c
def enN' (c e : Cra) (T : Tel) (l : List (UInt8 × List UInt8)) (nn i : Int) (sl : Value) (Q : VQ) (S : ThS) : Prop :=
 98 = 98 ∧ (ptrOk 5 sl && true) = true ∧ ∀ d, Q .normal (enF nn (IntKind.i64.wrap (i + 1)) sl d) (enM c e T S l)
def enR (t : Int) (S : ThS) (f : Fra) (K : ThS → Prop) : Prop :=
 vif (readOk f.1 f.2) (vif (decide (f.1 = 1)) (vif (rfreshT ((1, (readT f).1.2), t)) (K (S.1, true, S.2.2.1, S.2.2.2)) (K S)) (vif (decide (f.1 = 2)) (vif (rfreshT ((2, (readT f).1.2), t)) (K (S.1, S.2.1, true, S.2.2.2)) (K S)) (vif (rfreshT ((3, (readT f).1.2), t)) (K (S.1, S.2.1, S.2.2.1, true)) (K S)))) (K S)
section
variable (l : List (UInt8 × List UInt8)) (n : Nat) (c e : Cra) (T : Tel) (S : ThS) (Q : VQ)
set_option maxRecDepth 100000 in
theorem en_round (nn i : Int) (sl : Value) (d : Nat → Value) : enS l n (enL Tryz.prog) Q (enF nn i sl d) (enM c e T S l) =
    vif (decide (i < nn)) ((0 ≤ i ∧ i.toNat < l.length) ∧ SlAt 4 sl l ∧ some (cellsOf l) = some (cellsOf l) ∧ 5 = 5 ∧ 98 = 98 ∧ enR e.2.1 S (frL l i) (enN' c e T l nn i sl Q))
    (Q (.exit 2) (enE nn i sl d) (enM c e T S l)) := by kernel_rfl
def enQ : VQ := fun e vt m => match e with
 | .normal => enS l n (enZ Tryz.prog) Q vt m
 | e => Q e vt m
def enW (sl : Value) : Prop := SlAt 4 sl l ∧ 98 = 98 ∧ 98 = 98 ∧ (ptrOk 5 sl && true) = true ∧ ∀ d, enS l n (enB Tryz.prog) (enQ l n Q) (enF l.length 0 sl d) (enM c e T S l)
def sumW : Int := IntKind.i64.wrap (IntKind.i64.wrap (IntKind.i64.wrap (IntKind.i64.wrap (0 + IntKind.i64.wrap (T.2.2.2.2.2.2.1 * T.2.2.2.2.2.2.1)) + IntKind.i64.wrap (T.2.2.2.2.2.2.2.1 * T.2.2.2.2.2.2.2.1)) + IntKind.i64.wrap (T.2.2.2.2.2.2.2.2.1 * T.2.2.2.2.2.2.2.2.1)) + IntKind.i64.wrap (T.2.2.2.2.2.2.2.2.2.1 * T.2.2.2.2.2.2.2.2.2.1))
set_option maxRecDepth 100000 in
theorem en_start (r : Nat) (b : ByteArray) (Post : Value → Prop) : enS (scanL (c.2.2.1 ++ b).data.toList).1 (r + 6) (bodyOf Tryz.prog 16) (retQ Tryz.prog (fnOf Tryz.prog 16) (fun v _ => Post v)) ((then' cCra (then' cCra (then' (cT 13) (lone' cS)))).enc (c, e, T, b) ++ List.replicate ((fnOf Tryz.prog 16).ntmps - ((then' cCra (then' cCra (then' (cT 13) (lone' cS)))).enc (c, e, T, b)).length) undef) [] =
    vif (!decide ((cPlan e).1 = 2)) (Post (.bool (decide (sumW T = 0)))) (vif (decide (sumW T < 268173312)) (Post (.bool false)) (vif (decide (sumW T > 268697600)) (Post (.bool false)) (vif (decide ((cPlan c).1 = 2)) (Post (.bool true))
      (c.2.2.1.size + b.size ≤ 5000 ∧ 4 = 4 ∧ 98 = 98 ∧ ∀ sl, SlAt 4 sl (scanL (c.2.2.1 ++ b).data.toList).1 → enW (scanL (c.2.2.1 ++ b).data.toList).1 (r + 6) c e T (false, false, false, false) (retQ Tryz.prog (fnOf Tryz.prog 16) (fun v _ => Post v)) sl)))) := by kernel_rfl
def enP (Post : Value → Prop) : Prop := vif (decide ((cPlan c).1 = 1)) (vif S.2.1 (vif S.2.2.1 (vif S.2.2.2 (Post (.bool e.2.2.2.2.1)) (Post (.bool false))) (Post (.bool false))) (Post (.bool false))) (Post (.bool false))
set_option maxRecDepth 100000 in
theorem en_end (nn i : Int) (sl : Value) (d : Nat → Value) (Post : Value → Prop) : enS l n (enZ Tryz.prog) (retQ Tryz.prog (fnOf Tryz.prog 16) (fun v _ => Post v)) (enE nn i sl d) (enM c e T S l) = enP c e S Post := by kernel_rfl
end
end Go.Proofs.YtbophanlmkbfeaaGreatDoor
namespace Go.Proofs.YtbophanlmkbfeaaGreatDoor
open Go.RowKit
theorem sq_low {x K : Int} (hK : 0 ≤ K) (h : x * x < K * K) : -K < x ∧ x < K := by
 constructor
 ·by_cases c : -K < x
  ·exact c
  ·have := sq_mono hK (by omega : K ≤ -x)
   rw [Int.neg_mul_neg] at this
   omega
 ·by_cases c : x < K
  ·exact c
  ·have := sq_mono hK (by omega : K ≤ x)
   omega
theorem nq_len {τ : Nat → Int} (h : nq τ) : (∀ i < 4, -1099511627793 ≤ τ i ∧ τ i ≤ 1099511627793) ∧ 1208925819579443802800128 ≤ τ 0 * τ 0 + τ 1 * τ 1 + τ 2 * τ 2 + τ 3 * τ 3 ∧ τ 0 * τ 0 + τ 1 * τ 1 + τ 2 * τ 2 + τ 3 * τ 3 ≤ 1208925819664211593306434 := by
 obtain ⟨h1, h2, h3, h4, _⟩ := h
 obtain ⟨N, e1⟩ : ∃ N, normS false (τ 0) (τ 1) (τ 2) = (N, false) := ⟨_, Prod.ext rfl h2⟩
 rw [e1] at h1 h3 h4
 dsimp only at h1 h3 h4
 obtain ⟨n, e2⟩ : ∃ n, normS false N (τ 3) 0 = (n, false) := ⟨_, Prod.ext rfl h1⟩
 rw [e2] at h3 h4
 dsimp only at h3 h4
 have g1 := normS_good e1
 have g2 := normS_good e2
 have a0 := g1.2.2.2.2.1
 have a1 := g1.2.2.2.2.2.2.1
 have a2 := g1.2.2.2.2.2.2.2
 have b0 := g2.2.2.2.2.1
 have b1 := g2.2.2.2.2.2.2.1
 have b2 := g2.2.2.2.2.2.2.2
 have s0 := sq_nonneg (τ 0)
 have s1 := sq_nonneg (τ 1)
 have s2 := sq_nonneg (τ 2)
 have s3 := sq_nonneg (τ 3)
 have sN := sq_nonneg N
 have u1 := sq_mono (by omega : 0 ≤ n + 1) (by omega : n + 1 ≤ 1099511627793)
 have u2 := sq_mono (by omega : (0 : Int) ≤ 1099511627760) (by omega : 1099511627760 ≤ n)
 have hN := sq_low (x := N) (K := 1099511627793) (by decide) (by omega)
 have u3 := sq_mono (by omega : 0 ≤ N + 1) (by omega : N + 1 ≤ 1099511627793)
 have ex : (N + 1) * (N + 1) = N * N + 2 * N + 1 := by grind
 refine ⟨fun i hi => ?_, by omega, by omega⟩
 match i, hi with
 | 0, _ => have := sq_low (x := τ 0) (K := 1099511627793) (by decide) (by omega); omega
 | 1, _ => have := sq_low (x := τ 1) (K := 1099511627793) (by decide) (by omega); omega
 | 2, _ => have := sq_low (x := τ 2) (K := 1099511627793) (by decide) (by omega); omega
 | 3, _ => have := sq_low (x := τ 3) (K := 1099511627793) (by decide) (by omega); omega
theorem cnt_near {q : Int} (h : -1099511627793 ≤ q ∧ q ≤ 1099511627793) : ∃ m, tcS (partS false q 1 67108864) = (m, false) ∧ -16385 ≤ m ∧ m ≤ 16385 ∧ -33554432 ≤ m * 67108864 - q ∧ m * 67108864 - q ≤ 33554432 := by
 obtain ⟨m, e, h1, h2⟩ := partS_one q 67108864 (numB_of (by omega)) (by omega) (sz_le (by omega))
 refine ⟨m, ?_, by omega, by omega, by omega, by omega⟩
 rw [e]
 unfold tcS
 rw [if_pos (inR_iff.2 ⟨by dsimp only; omega, by dsimp only; omega⟩)]
theorem sq_err {m q : Int} (hq : -1099511627793 ≤ q ∧ q ≤ 1099511627793) (h : -33554432 ≤ m * 67108864 - q ∧ m * 67108864 - q ≤ 33554432) : Ab (4503599627370496 * (m * m) - q * q) 73788102424999231488 := by
 have e : 4503599627370496 * (m * m) - q * q = 2 * (q * (m * 67108864 - q)) + (m * 67108864 - q) * (m * 67108864 - q) := by grind
 have p := Ab.mul (x := q) (y := m * 67108864 - q) (K := 1099511627793) (L := 33554432) ⟨hq.1, hq.2⟩ ⟨h.1, h.2⟩
 have r := Ab.mul (x := m * 67108864 - q) (y := m * 67108864 - q) (K := 33554432) (L := 33554432) ⟨h.1, h.2⟩ ⟨h.1, h.2⟩
 have := p.lo; have := p.hi; have := r.lo; have := r.hi
 rw [e]
 constructor <;> omega
theorem tell_near {τ : Nat → Int} (h : nq τ) : ∃ m0 m1 m2 m3, tlC (τ 0, τ 1, τ 2, τ 3) (0, 0, 0) = ((m0, m1, m2, m3), (0, 0, 0)) ∧ (-16385 ≤ m0 ∧ m0 ≤ 16385) ∧ (-16385 ≤ m1 ∧ m1 ≤ 16385) ∧ (-16385 ≤ m2 ∧ m2 ≤ 16385) ∧ (-16385 ≤ m3 ∧ m3 ≤ 16385) ∧ 268173312 ≤ m0 * m0 + m1 * m1 + m2 * m2 + m3 * m3 ∧ m0 * m0 + m1 * m1 + m2 * m2 + m3 * m3 ≤ 268697600 := by
 obtain ⟨hb, lo, hi⟩ := nq_len h
 obtain ⟨m0, e0, a0, b0, c0, d0⟩ := cnt_near (hb 0 (by decide))
 obtain ⟨m1, e1, a1, b1, c1, d1⟩ := cnt_near (hb 1 (by decide))
 obtain ⟨m2, e2, a2, b2, c2, d2⟩ := cnt_near (hb 2 (by decide))
 obtain ⟨m3, e3, a3, b3, c3, d3⟩ := cnt_near (hb 3 (by decide))
 have s0 := sq_err (hb 0 (by decide)) ⟨c0, d0⟩
 have s1 := sq_err (hb 1 (by decide)) ⟨c1, d1⟩
 have s2 := sq_err (hb 2 (by decide)) ⟨c2, d2⟩
 have s3 := sq_err (hb 3 (by decide)) ⟨c3, d3⟩
 have := s0.lo; have := s0.hi; have := s1.lo; have := s1.hi; have := s2.lo; have := s2.hi; have := s3.lo; have := s3.hi
 have z : tcS (partS false 0 10000 1099511627776) = (0, false) := by kernel_rfl
 refine ⟨m0, m1, m2, m3, ?_, ⟨a0, b0⟩, ⟨a1, b1⟩, ⟨a2, b2⟩, ⟨a3, b3⟩, by omega, by omega⟩
 unfold tlC
 simp only [e0, e1, e2, e3, z]
 rfl
end Go.Proofs.YtbophanlmkbfeaaGreatDoor
namespace Go.Proofs.YtbophanlmkbfeaaGreatDoor
open Go.RowKit
def frsOf (c : Cra) (b : ByteArray) : List (UInt8 × List UInt8) := (scanL (c.2.2.1 ++ b).data.toList).1
theorem st_step {F : Fs} (c : Cra) (t : Int) (b : ByteArray) (x : Cra × Hea) :
    cAcks (stepR F (fun _ => x) c t b).1 = cAcks x.1 ∧ (stepR F (fun _ => x) c t b).1.2.2.2.2.1 = x.1.2.2.2.2.1 ∧ (stepR F (fun _ => x) c t b).1.2.2.2.2.2.1 = x.1.2.2.2.2.2.1 := by
 unfold stepR
 dsimp only
 obtain ⟨c1, x⟩ := x
 dsimp only
 generalize driftW F c1.2.2.2.2.2.2.1 x = dr
 obtain ⟨g, s, e, _, _⟩ := goW_is F (setDri c1 dr) x t
 rw [e]
 exact ⟨rfl, rfl, rfl⟩
end Go.Proofs.YtbophanlmkbfeaaGreatDoor
namespace Go.Proofs.YtbophanlmkbfeaaGreatDoor
open Go.RowKit
theorem sum_wrap {m0 m1 m2 m3 : Int} (h0 : -16385 ≤ m0 ∧ m0 ≤ 16385) (h1 : -16385 ≤ m1 ∧ m1 ≤ 16385) (h2 : -16385 ≤ m2 ∧ m2 ≤ 16385) (h3 : -16385 ≤ m3 ∧ m3 ≤ 16385) :
    IntKind.i64.wrap (IntKind.i64.wrap (IntKind.i64.wrap (IntKind.i64.wrap (0 + IntKind.i64.wrap (m0 * m0)) + IntKind.i64.wrap (m1 * m1)) + IntKind.i64.wrap (m2 * m2)) + IntKind.i64.wrap (m3 * m3)) = m0 * m0 + m1 * m1 + m2 * m2 + m3 * m3 := by
 have p0 := Ab.mul (x := m0) (y := m0) (K := 16385) (L := 16385) ⟨h0.1, h0.2⟩ ⟨h0.1, h0.2⟩
 have p1 := Ab.mul (x := m1) (y := m1) (K := 16385) (L := 16385) ⟨h1.1, h1.2⟩ ⟨h1.1, h1.2⟩
 have p2 := Ab.mul (x := m2) (y := m2) (K := 16385) (L := 16385) ⟨h2.1, h2.2⟩ ⟨h2.1, h2.2⟩
 have p3 := Ab.mul (x := m3) (y := m3) (K := 16385) (L := 16385) ⟨h3.1, h3.2⟩ ⟨h3.1, h3.2⟩
 have := p0.lo; have := p0.hi; have := p1.lo; have := p1.hi; have := p2.lo; have := p2.hi; have := p3.lo; have := p3.hi
 generalize m0 * m0 = a at *
 generalize m1 * m1 = b at *
 generalize m2 * m2 = c at *
 generalize m3 * m3 = d at *
 simp only [IntKind.wrap_i64]
 omega
theorem sum_fine (F : Fs) {d : Cra} (hm : (cPlan d).1 = 2) (h : nqT (cGues d)) : 268173312 ≤ sumW (telF F d) ∧ sumW (telF F d) ≤ 268697600 := by
 have hc : coilW F d = zero3 := by
  unfold coilW
  rw [if_pos]
  have : decide ((cPlan d).1 = 0) = false := decide_eq_false (by omega)
  show (!decide ((cPlan d).1 = 0)) = true
  rw [this]
  rfl
 obtain ⟨m0, m1, m2, m3, e, k0, k1, k2, k3, lo, hi⟩ := tell_near h
 have ht : countsT (q4T (cGues d), coilW F d) = ((m0, m1, m2, m3, ()), (0, 0, 0, ())) := by
  rw [hc]
  show cntT (tlC _ _) = _
  exact (congrArg cntT e)
 unfold telF
 rw [ht]
 show 268173312 ≤ IntKind.i64.wrap _ ∧ IntKind.i64.wrap _ ≤ 268697600
 have hs := sum_wrap k0 k1 k2 k3
 exact ⟨by rw [← hs] at lo; exact lo, by rw [← hs] at hi; exact hi⟩
theorem tlC_zero (m : V3) : (tlC (0, 0, 0, 0) m).1 = (0, 0, 0, 0) := by
 have z : tcS (partS false 0 1 67108864) = (0, false) := by kernel_rfl
 unfold tlC
 simp only [z]
 split <;> rfl
theorem sum_none (F : Fs) {d : Cra} (h : cGues d = zeroG) : sumW (telF F d) = 0 := by
 have ht : (countsT (q4T (cGues d), coilW F d)).1 = (0, 0, 0, 0, ()) := by
  rw [h]
  show (cntT (tlC (0, 0, 0, 0) _)).1 = _
  unfold cntT
  rw [tlC_zero]
  rfl
 unfold telF
 have e : ∀ q : Tup 4 × Tup 3, q.1 = (0, 0, 0, 0, ()) → sumW (telT d q) = 0 := by
  rintro ⟨a, b⟩ h
  dsimp only at h
  subst h
  rfl
 exact e _ ht
theorem dec_parts (F : Fs) (c : Cra) (t : Int) (x : Hea) (s : Sky) : (decW F c t x s).2.1 = !decide (x.1.1 = 0) ∧ (decW F c t x s).2.2.2.1 = standW F x s := by
 unfold decW
 split
 ·split
  ·exact ⟨rfl, rfl⟩
  ·exact ⟨rfl, rfl⟩
 ·split
  ·exact ⟨rfl, rfl⟩
  ·exact ⟨rfl, rfl⟩
theorem stand_all {F : Fs} {x : Hea} {s : Sky} (h : standW F x s = true) : s.1 = true ∧ x.2.1.1 ≠ 0 ∧ x.2.2.1.1 ≠ 0 := by
 unfold standW at h
 cases hs : s.1
 ·rw [hs] at h; cases h
 rw [hs] at h
 simp only [Bool.not_true, Bool.false_eq_true, if_false, Bool.not_not] at h
 by_cases h1 : x.2.1.1 = 0
 ·rw [if_pos (decide_eq_true h1)] at h; cases h
 rw [if_neg (by rw [decide_eq_false h1]; decide)] at h
 by_cases h2 : x.2.2.1.1 = 0
 ·rw [if_pos (decide_eq_true h2)] at h; cases h
 exact ⟨rfl, h1, h2⟩
theorem enters {F : Fs} (hF : FsIs F) {c : Cra} (hI : CInv c) {t : Int} (b : ByteArray) (hs : stays c t = false) (h2 : (cPlan (stepF F c t b).1).1 = 2) (h1 : (cPlan c).1 ≠ 2) :
    (cPlan c).1 = 1 ∧ (takeW F c t b).1.2.2.2.2.1 = true ∧ (takeW F c t b).2.1.1 ≠ 0 ∧ (takeW F c t b).2.2.1.1 ≠ 0 ∧ (takeW F c t b).2.2.2.1.1 ≠ 0 := by
 obtain ⟨e, _, _⟩ := stays_no hF hs b
 rw [e] at h2
 have hm := (take_mid hF c hI.ak t b).1.plan
 unfold stepR at h2
 generalize takeW F c t b = T at h2 hm ⊢
 obtain ⟨c1, x⟩ := T
 dsimp only at h2 hm ⊢
 have hp1 : (cPlan c1).1 = (cPlan c).1 := by rcases hm with e | e <;> rw [e]; rfl
 have hp : c1.2.2.2.2.1 = (setDri c1 (driftW F c1.2.2.2.2.2.2.1 x)).2.2.2.2.1 := rfl
 have hp1 : (cPlan (setDri c1 (driftW F c1.2.2.2.2.2.2.1 x))).1 = (cPlan c).1 := hp1
 rw [hp]
 generalize setDri c1 (driftW F c1.2.2.2.2.2.2.1 x) = c2 at h2 hp1 ⊢
 unfold goW at h2
 rw [if_neg (by rw [decide_eq_false (show ¬ (cPlan c2).1 = 2 by omega)]; decide)] at h2
 have hn : (nextT (cPlan c2, decW F c2 t x (skyW F c2 t))).1 = 2 := by
  have h2 : (planW F c2 (decW F c2 t x (skyW F c2 t)) x (skyW F c2 t)).1.1 = 2 := h2
  rcases plan_is hF c2 (decW F c2 t x (skyW F c2 t)) x (skyW F c2 t) with e | ⟨e, _⟩
  ·rw [← e]; exact h2
  ·exact e
 obtain ⟨d1, d2⟩ := dec_parts F c2 t x (skyW F c2 t)
 rcases next_fine hn with ⟨k, _⟩ | ⟨k, k1, k2, _⟩
 ·have k : (cPlan c2).1 = 2 := k
  omega
 have k : (cPlan c2).1 = 1 := k
 rw [d1] at k1
 rw [d2] at k2
 obtain ⟨q0, q1, q2⟩ := stand_all k2
 refine ⟨by omega, ?_, by simpa using k1, q1, q2⟩
 unfold skyW at q0
 cases hc : c2.2.2.2.2.1
 ·rw [hc] at q0; cases q0
 ·rfl
def thF (t : Int) (S : ThS) (f : Fra) : ThS :=
 if readOk f.1 f.2 && freshT ((readT f).1, t) then (if f.1 = 1 then (S.1, true, S.2.2.1, S.2.2.2) else if f.1 = 2 then (S.1, S.2.1, true, S.2.2.2) else (S.1, S.2.1, S.2.2.1, true)) else S
theorem enR_of {t : Int} {S : ThS} {f : Fra} {K : ThS → Prop} (h : K (thF t S f)) : enR t S f K := by
 unfold enR
 unfold thF at h
 have e : ∀ k : Int, rfreshT ((k, (readT f).1.2), t) = freshT ((readT f).1, t) := fun k => rfresh_is _
 rw [e, e, e]
 cases ho : readOk f.1 f.2
 ·rw [ho] at h; exact h
 rw [ho, Bool.true_and] at h
 by_cases h1 : f.1 = 1
 ·rw [decide_eq_true h1]
  cases hf : freshT ((readT f).1, t)
  ·rw [hf] at h; exact h
  ·rw [hf, if_pos rfl, if_pos h1] at h; exact h
 rw [decide_eq_false h1]
 by_cases h2 : f.1 = 2
 ·rw [decide_eq_true h2]
  cases hf : freshT ((readT f).1, t)
  ·rw [hf] at h; exact h
  ·rw [hf, if_pos rfl, if_neg h1, if_pos h2] at h; exact h
 rw [decide_eq_false h2]
 cases hf : freshT ((readT f).1, t)
 ·rw [hf] at h; exact h
 ·rw [hf, if_pos rfl, if_neg h1, if_neg h2] at h; exact h
structure ThI (x : Hea) (S : ThS) : Prop where
 g : x.1.1 ≠ 0 → S.2.1 = true
 s : x.2.1.1 ≠ 0 → S.2.2.1 = true
 m : x.2.2.1.1 ≠ 0 → S.2.2.2 = true
theorem th_no {t : Int} {S : ThS} {f : Fra} (h : ¬ (f.1 = 1 ∨ f.1 = 2 ∨ f.1 = 3)) : thF t S f = S := by
 unfold thF
 cases ho : readOk f.1 f.2
 ·rfl
 ·exact absurd (readOk_kind ho) h
theorem th_sen {F : Fs} (hF : FsIs F) {t : Int} {c : Cra} {x : Hea} {S : ThS} {f : Fra} (h : ThI x S) : ThI (senW F c x f t).2 (thF t S f) := by
 have mono : ∀ S', (S.2.1 = true → S'.2.1 = true) → (S.2.2.1 = true → S'.2.2.1 = true) → (S.2.2.2 = true → S'.2.2.2 = true) → ThI x S' := fun S' a b c => ⟨fun k => a (h.g k), fun k => b (h.s k), fun k => c (h.m k)⟩
 unfold senW thF
 rw [hF.read, hF.fresh]
 have hr := readT_if f.1 f.2
 cases ho : readOk f.1 f.2
 ·rw [ho] at hr
  have h0 : (readT f).2 = false := by rw [show readT f = _ from hr]; rfl
  rw [h0]
  exact h
 ·rw [ho] at hr
  have h0 : (readT f).2 = true := by rw [show readT f = _ from hr]; rfl
  have hk : (readT f).1.1 = f.1 := by rw [show readT f = _ from hr]; rfl
  rw [h0, hk]
  simp only [Bool.not_true, Bool.false_eq_true, if_false, Bool.true_and]
  cases hf : freshT ((readT f).1, t)
  ·exact h
  ·simp only [Bool.not_true, Bool.false_eq_true, if_false, if_true]
   have h3 := readOk_kind ho
   by_cases h1 : f.1 = 1
   ·rw [if_pos (decide_eq_true h1), if_pos h1]
    exact ⟨fun _ => rfl, h.s, h.m⟩
   rw [if_neg (by rw [decide_eq_false h1]; decide), if_neg h1]
   by_cases h2 : f.1 = 2
   ·rw [if_pos (decide_eq_true h2), if_pos h2]
    exact ⟨h.g, fun _ => rfl, h.m⟩
   rw [if_neg (by rw [decide_eq_false h2]; decide), if_neg h2, if_pos (decide_eq_true (show f.1 = 3 by omega))]
   exact ⟨h.g, h.s, fun _ => rfl⟩
theorem th_hear {F : Fs} (hF : FsIs F) {t : Int} {s : Cra × Hea} {S : ThS} {f : Fra} (h : ThI s.2 S) : ThI (hearW F t s f).2 (thF t S f) := by
 unfold hearW
 split
 ·exact th_sen hF h
 rename_i h1
 split
 ·exact th_sen hF h
 rename_i h2
 split
 ·exact th_sen hF h
 rename_i h3
 rw [th_no (by omega)]
 split
 ·generalize F.oread f = o
  unfold ordC
  split
  ·exact h
  split
  ·exact ⟨h.g, h.s, h.m⟩
  split
  ·exact ⟨h.g, h.s, h.m⟩
  split
  ·exact h
  split
  ·exact h
  ·exact h
 ·exact h
theorem th_all {F : Fs} (hF : FsIs F) (t : Int) : ∀ (fs : List Fra) (s : Cra × Hea) (S : ThS), ThI s.2 S → ThI (fs.foldl (hearW F t) s).2 (fs.foldl (thF t) S)
 | [], _, _, h => h
 | f :: fs, s, S, h => th_all hF t fs (hearW F t s f) (thF t S f) (th_hear hF h)
def th0 : ThS := (false, false, false, false)
theorem th_take {F : Fs} (hF : FsIs F) (c : Cra) (t : Int) (b : ByteArray) : ThI (takeW F c t b).2 (((frsOf c b).map fraOf).foldl (thF t) th0) := by
 unfold takeW
 exact th_all hF t _ _ _ ⟨fun k => absurd rfl k, fun k => absurd rfl k, fun k => absurd rfl k⟩
structure EnHeld (c e : Cra) (T : Tel) (b : ByteArray) : Prop where
 few : c.2.2.1.size + b.size ≤ 5000
 out : (cPlan e).1 ≠ 2 → sumW T = 0
 one : (cPlan e).1 = 2 → 268173312 ≤ sumW T ∧ sumW T ≤ 268697600
 ent : (cPlan e).1 = 2 → (cPlan c).1 ≠ 2 → (cPlan c).1 = 1 ∧ (((frsOf c b).map fraOf).foldl (thF e.2.1) th0).2.1 = true ∧ (((frsOf c b).map fraOf).foldl (thF e.2.1) th0).2.2.1 = true ∧ (((frsOf c b).map fraOf).foldl (thF e.2.1) th0).2.2.2 = true ∧ e.2.2.2.2.1 = true
theorem enters_all {F : Fs} (hF : FsNq F) : HeldAllI F FinI EnHeld := by
 intro c t b hi _ hz hs k
 have hf := step_fine hF b hs
 refine ⟨⟨hz, fun h => sum_none F (hf.none h), fun h => sum_fine F h (hf.fine h).one, fun h2 h1 => ?_⟩, hf⟩
 obtain ⟨a1, a2, a3, a4, a5⟩ := enters hF.is hi b hs h2 h1
 have ht := th_take hF.is c t b
 have hd := st_step (F := F) c t b (takeW F c t b)
 rw [k.tick]
 refine ⟨a1, ht.g a3, ht.s a4, ht.m a5, ?_⟩
 obtain ⟨e, _, _⟩ := stays_no hF.is hs b
 rw [e, hd.2.1]
 exact a2
theorem en_loop {l : List (UInt8 × List UInt8)} {c e : Cra} {T : Tel} {sl : Value} {G : VQ → List Value → Xm → Prop} (hG : ∀ S Q nn i d, G Q (enF nn i sl d) (enM c e T S l) =
    vif (decide (i < nn)) ((0 ≤ i ∧ i.toNat < l.length) ∧ SlAt 4 sl l ∧ some (cellsOf l) = some (cellsOf l) ∧ 5 = 5 ∧ 98 = 98 ∧ enR e.2.1 S (frL l i) (enN' c e T l nn i sl Q))
    (Q (.exit 2) (enE nn i sl d) (enM c e T S l))) (hl : l.length ≤ 5000) (hs : SlAt 4 sl l) (Q : VQ) (rest : List (UInt8 × List UInt8)) : ∀ (pre : List (UInt8 × List UInt8)), l = pre ++ rest → ∀ (q : Nat) (d : Nat → Value) (S : ThS), rest.length < q →
    (∀ i d, Q (.exit 2) (enE l.length i sl d) (enM c e T ((rest.map fraOf).foldl (thF e.2.1) S) l)) →
    loopN q G Q (enF l.length pre.length sl d) (enM c e T S l) := by
 have hp := hs.ptr (k2 := 5) (by decide)
 induction rest with
 | nil =>
  intro pre e1 q d s hq hQ
  obtain ⟨q, rfl⟩ : ∃ z, q = z + 1 := ⟨q - 1, by have : 0 < q := hq; omega⟩
  have e2 : l.length = pre.length := by rw [e1]; simp
  rw [loopN, hG, decide_eq_false (by omega)]
  exact hQ _ d
 | cons f rest ih =>
  intro pre e1 q d S hq hQ
  rw [List.length_cons] at hq
  obtain ⟨q, rfl⟩ : ∃ z, q = z + 1 := ⟨q - 1, by omega⟩
  have e2 : l.length = pre.length + (rest.length + 1) := by rw [e1]; simp
  rw [loopN, hG, decide_eq_true (by omega)]
  refine ⟨⟨by omega, by rw [Int.toNat_natCast]; omega⟩, hs, rfl, rfl, rfl, enR_of ?_⟩
  refine ⟨rfl, by rw [hp]; rfl, fun d => ?_⟩
  have hw : IntKind.i64.wrap ((pre.length : Int) + 1) = ((pre ++ [f]).length : Nat) := by
   rw [IntKind.wrap_i64, List.length_append, List.length_singleton]
   omega
  have hf : frL l (pre.length : Nat) = fraOf f := by rw [e1]; exact frL_at pre rest f
  rw [hw, hf]
  exact ih (pre ++ [f]) (by rw [e1]; simp) q d (thF e.2.1 S (fraOf f)) (by omega) hQ
set_option maxRecDepth 100000 in
theorem enc_ov (l : List (UInt8 × List UInt8)) (w : World) : OvOk Tryz.prog (enV l) [] w [] [] (bodyOf Tryz.prog 16) := by
 refine ovOk_by (ns := [(14, #[(opOf Tryz.prog 16 14 0), (opOf Tryz.prog 16 14 1), (opOf Tryz.prog 16 14 2), (opOf Tryz.prog 16 14 3), (opOf Tryz.prog 16 14 4), (opOf Tryz.prog 16 14 5), (opOf Tryz.prog 16 14 6), (opOf Tryz.prog 16 14 7), (opOf Tryz.prog 16 14 8), (opOf Tryz.prog 16 14 9), (opOf Tryz.prog 16 14 10), (opOf Tryz.prog 16 14 11)], false), (15, #[(opOf Tryz.prog 16 15 0), (opOf Tryz.prog 16 15 1), (opOf Tryz.prog 16 15 2)], false), (17, #[(opOf Tryz.prog 16 17 0), (opOf Tryz.prog 16 17 1), (opOf Tryz.prog 16 17 2), (opOf Tryz.prog 16 17 3)], false), (21, opsOf Tryz.prog 16 21, false)]) (by kernel_rfl) ?_
 intro r hr
 rcases List.mem_cons.1 hr with rfl | hr
 ·intro R hR K Q bl vt m a w h r hK
  cases hR
  exact nScan_sound (tC := 42) (tT := 9) (fn := 17) rfl (by kernel_rfl) (by kernel_rfl) rfl ⟨by kernel_rfl, by kernel_rfl, by kernel_rfl⟩ ⟨by kernel_rfl, by kernel_rfl, by kernel_rfl⟩ ⟨by kernel_rfl, by kernel_rfl, by kernel_rfl⟩ ⟨by kernel_rfl, by kernel_rfl, by kernel_rfl⟩ ⟨by kernel_rfl, by kernel_rfl, by kernel_rfl⟩ ⟨by kernel_rfl, by kernel_rfl, by kernel_rfl⟩ ⟨by kernel_rfl, by kernel_rfl, by kernel_rfl⟩ ⟨by kernel_rfl, by kernel_rfl, by kernel_rfl⟩ ⟨by kernel_rfl, by kernel_rfl, by kernel_rfl⟩ ⟨by kernel_rfl, by kernel_rfl, by kernel_rfl⟩ ⟨by kernel_rfl, by kernel_rfl, by kernel_rfl⟩ ⟨by kernel_rfl, by kernel_rfl, by kernel_rfl⟩ h r hK
 rcases List.mem_cons.1 hr with rfl | hr
 ·intro R hR K Q bl vt m a w h r hK
  cases hR
  exact nMany_sound (tS := 64) (e := 49) (by decide) (by kernel_rfl) rfl ⟨by kernel_rfl, by kernel_rfl, by kernel_rfl⟩ ⟨by kernel_rfl, by kernel_rfl, by kernel_rfl⟩ ⟨by kernel_rfl, by kernel_rfl, by kernel_rfl⟩ h r hK
 rcases List.mem_cons.1 hr with rfl | hr
 ·intro R hR K Q bl vt m a w h r hK
  cases hR
  exact nOne_sound (tS := 64) (tF := 49) (z := .agg #[.int .i64 0, .string ⟨#[]⟩]) (by kernel_rfl) (by kernel_rfl) (by kernel_rfl) (by kernel_rfl) rfl rfl ⟨by kernel_rfl, by kernel_rfl, by kernel_rfl⟩ ⟨by kernel_rfl, by kernel_rfl, by kernel_rfl⟩ ⟨by kernel_rfl, by kernel_rfl, by kernel_rfl⟩ ⟨by kernel_rfl, by kernel_rfl, by kernel_rfl⟩ h r hK
 rcases List.mem_cons.1 hr with rfl | hr
 ·intro R hR K Q bl vt m a w h r hK
  cases hR
  exact cutBy_sound xmixA (by decide) h r hK
 ·cases hr
set_option maxRecDepth 100000 in
theorem enters1_ok : HeldOk 16 EnHeld := by
 intro c e T b hH w hw
 obtain ⟨hs, hout, hone, hent⟩ := hH
 refine pure_atO (d := then' cCra (then' cCra (then' (cT 13) (lone' cS)))) (k := cB) (x := (c, e, T, b)) (y := true) (tbl := enT) (dirty := fun _ => []) (n := (frsOf c b).length + 6) (ov := enV (frsOf c b)) xmixA (by kernel_rfl) (by kernel_rfl) (enc_ov _) ?_ w hw
 have hL : (frsOf c b).length ≤ 5000 := Nat.le_trans (scan_len _) (by simpa [ByteArray.size_append] using hs)
 refine Eq.mpr (en_start c e T ((frsOf c b).length) b (fun v => v = cB.enc true)) ?_
 by_cases h2 : (cPlan e).1 = 2
 ·rw [decide_eq_true h2]
  obtain ⟨lo, hi⟩ := hone h2
  show vif _ _ _
  rw [decide_eq_false (show ¬ sumW T < 268173312 by omega)]
  show vif _ _ _
  rw [decide_eq_false (show ¬ sumW T > 268697600 by omega)]
  show vif _ _ _
  by_cases h1 : (cPlan c).1 = 2
  ·rw [decide_eq_true h1]
   rfl
  rw [decide_eq_false h1]
  obtain ⟨k1, k2, k3, k4, k5⟩ := hent h2 h1
  refine ⟨hs, rfl, rfl, fun sl hsl => ⟨hsl, rfl, rfl, by rw [hsl.ptr (k2 := 5) (by decide)]; rfl, fun d => ?_⟩⟩
  have hsl : SlAt 4 sl (frsOf c b) := hsl
  show enS (frsOf c b) ((frsOf c b).length + 6) (enB Tryz.prog) (enQ (frsOf c b) ((frsOf c b).length + 6) _) (enF (frsOf c b).length 0 sl d) (enM c e T (false, false, false, false) (frsOf c b))
  generalize frsOf c b = l at *
  refine en_loop (fun S Q nn i d => en_round l (l.length + 6) c e T S Q nn i sl d) hL hsl _ l [] rfl _ d (false, false, false, false) (by omega) (fun i d => ?_)
  refine Eq.mpr (en_end l (l.length + 6) c e T _ _ i sl d (fun v => v = cB.enc true)) ?_
  unfold enP
  rw [decide_eq_true k1]
  show vif _ _ _
  have k2 : ((l.map fraOf).foldl (thF e.2.1) (false, false, false, false)).2.1 = true := k2
  have k3 : ((l.map fraOf).foldl (thF e.2.1) (false, false, false, false)).2.2.1 = true := k3
  have k4 : ((l.map fraOf).foldl (thF e.2.1) (false, false, false, false)).2.2.2 = true := k4
  rw [k2, k3, k4, k5]
  rfl
 ·rw [decide_eq_false h2]
  show Value.bool _ = _
  rw [decide_eq_true (hout h2)]
  rfl
end Go.Proofs.YtbophanlmkbfeaaGreatDoor
namespace Go.Proofs.YtbophanlmkbfeaaGreatDoor
open Go.ChangeShapes Go.WideShapes Go.ChangeAt Go.RowKit Go.Joins
theorem laid_out : laidOutB Tryz.prog = true := by kernel_rfl
theorem play_cells : Tryz.prog.cellsOf 61 = 2 := by kernel_rfl
theorem rec_cells : Tryz.prog.cellsOf 44 = 2 := by kernel_rfl
theorem str_one : Tryz.prog.cellsOf 9 = 1 := by kernel_rfl
theorem i64_one : Tryz.prog.cellsOf 2 = 1 := by kernel_rfl
section
variable {H : Type} {enc : TypeId × Value → H} {w : World} {base : Nat} {held : Bool}
theorem trod_rec {spare : Nat → Bool} {fuel : Nat} {c0 c1 : Value} {x : DataW H × List MemPlace} (hf : DataW.trod enc Tryz.prog w base spare held fuel 44 [c0, c1] = some x) :
    ∃ a : Int × ByteArray, c0 = .int .i64 a.1 ∧ c1 = .string a.2 ∧ x.1 = .agg [.lit (.int .i64 a.1), .lit (.string a.2.data.toList)] := by
 obtain ⟨y0, y1, n, hx, _, h0, h1⟩ := trod_struct2 Tryz.underlying44 hf
 obtain ⟨x0, e0, rfl, _⟩ := DataW.trod_int Tryz.underlying2 h0
 obtain ⟨x1, e1, rfl, w1⟩ := DataW.trod_string Tryz.underlying9 h1
 simp only [i64_one, List.drop_zero, List.take_succ_cons, List.take_zero, List.cons.injEq, and_true] at e0
 simp only [str_one, List.drop_succ_cons, List.drop_zero, List.take_succ_cons, List.take_zero, List.cons.injEq, and_true] at e1
 exact ⟨(x0, x1), e0, e1, by rw [hx]⟩
theorem weight_in {e : TypeId} {d : DataW H} {n : Nat} (hn : n ∈ d.weights Tryz.prog e) : ∀ l : List (DataW H), d ∈ l → n ∈ DataW.weightsAll Tryz.prog e l
 | [], h => by cases h
 | x :: l, h => by
  unfold DataW.weightsAll
  rcases List.mem_cons.1 h with rfl | h
  ·exact List.mem_append_left _ hn
  ·exact List.mem_append_right _ (weight_in hn l h)
theorem rec_weight (a : Int × ByteArray) : a.2.data.toList.length ∈ DataW.weights Tryz.prog 44 (.agg [.lit (.int .i64 a.1), .lit (.string a.2.data.toList)] : DataW H) := by
 have e : DataW.weights Tryz.prog 44 (.agg [.lit (.int .i64 a.1), .lit (.string a.2.data.toList)] : DataW H) = [a.2.data.toList.length] := by kernel_rfl
 rw [e]
 exact List.mem_singleton_self _
theorem rec_bytes : 1 ≤ Tryz.prog.bytesOf 44 := by
 have e : Tryz.prog.bytesOf 44 = 24 := by kernel_rfl
 omega
set_option maxRecDepth 100000 in
theorem open_recs {fuel : Nat} {cs : List Value} {x : DataW H × List MemPlace} (hG : 0 < w.heap.size) (h : DataW.trod enc Tryz.prog w base (fun _ => true) held fuel 22 cs = some x) :
    ∃ (B : Nat) (ao : Option Addr) (nn cap : Nat) (L : Nat → Int × ByteArray) (sl : Value), cs = [.slice ao nn cap] ∧ Recs w B ao nn cap L sl ∧ ((DataW.weights Tryz.prog 22 x.1).all (· ≤ reachBytes) = true → nn ≤ reachBytes ∧ ∀ i, i < nn → (L i).2.size ≤ reachBytes) := by
 rcases Go.Deep.open_slice Tryz.underlying22 h with ⟨h0, _⟩ | ⟨a, len, cap, m, n, D, Pl, rfl, hb, hl, hm, hmm, rfl, hx⟩
 ·exact ⟨0, none, 0, 0, fun _ => (0, ⟨#[]⟩), .slice none 0 0, h0, ⟨fun _ _ => rfl, rfl, hG, fun h => absurd h (Nat.not_lt_zero _), fun i h => absurd h (Nat.not_lt_zero i)⟩, fun _ => ⟨Nat.zero_le _, fun i h => absurd h (Nat.not_lt_zero i)⟩⟩
 ·rw [if_pos rfl] at hmm
  have each : ∀ i, i < len → ∃ v : Int × ByteArray, w.cell? (a.add (i * 2)) = some (.int .i64 v.1) ∧ w.cell? (a.add (i * 2 + 1)) = some (.string v.2) ∧ D i = .agg [.lit (.int .i64 v.1), .lit (.string v.2.data.toList)] := by
   intro i hi
   obtain ⟨cs', h1, h2⟩ := hx i (by omega)
   rw [rec_cells] at h1
   obtain ⟨_, hlen, hcell⟩ := World.cells?_some h1
   match cs', hlen with
   | [c0, c1], _ =>
    obtain ⟨v, rfl, rfl, hv⟩ := trod_rec h2
    have g0 := hcell 0 (by omega)
    have g1 := hcell 1 (by omega)
    rw [Go.Deep.add_add] at g0 g1
    exact ⟨v, g0, g1, hv⟩
  have inh : Inhabited (Int × ByteArray) := ⟨(0, ⟨#[]⟩)⟩
  obtain ⟨L, hL⟩ := Go.Deep.choose_lt each
  by_cases h0 : len = 0
  ·subst h0
   exact ⟨0, some a, 0, cap, L, .nilIface, rfl, ⟨fun _ _ => rfl, rfl, hG, fun h => absurd h (Nat.not_lt_zero _), fun i h => absurd h (Nat.not_lt_zero i)⟩, fun _ => ⟨Nat.zero_le _, fun i h => absurd h (Nat.not_lt_zero i)⟩⟩
  ·obtain ⟨B, o, sp⟩ := a
   have s0 := (hL 0 (by omega)).1
   obtain rfl : sp = none := by simpa [Addr.add] using World.cell?_spot s0
   have hB : B < w.heap.size := by simpa [Addr.add] using World.block_lt_of_cell? _ _ s0
   simp only [add_is] at hL
   refine ⟨B, some ⟨B, o, none⟩, len, cap, L, .slice (some ⟨0, o, none⟩) len cap, rfl, ⟨fun bl hbl => ⟨B, hbl, rfl⟩, rfl, hB, (fun _ h => by cases h), fun i hi => ⟨o, rfl, (hL i hi).1, (hL i hi).2.1⟩⟩, fun hw => ?_⟩
   have hw : (DataW.weights Tryz.prog 22 (.slice ((List.range len).map D) ((List.range (m - len)).map fun j => D (len + j)))).all (· ≤ reachBytes) = true := hw
   unfold DataW.weights at hw
   rw [Tryz.underlying22] at hw
   simp only [List.all_eq_true, decide_eq_true_eq] at hw
   refine ⟨?_, fun i hi => ?_⟩
   ·have h1 := hw _ List.mem_cons_self
    rw [List.length_map, List.length_range] at h1
    have h2 : len * 1 ≤ (len + ((List.range (m - len)).map fun j => D (len + j)).length) * Tryz.prog.bytesOf 44 := Nat.mul_le_mul (Nat.le_add_right _ _) rec_bytes
    omega
   ·have h1 := rec_weight (H := H) (L i)
    rw [← (hL i hi).2.2] at h1
    exact hw _ (List.mem_cons_of_mem _ (List.mem_append_left _ (weight_in h1 _ (List.mem_map.2 ⟨i, List.mem_range.2 hi, rfl⟩))))
set_option maxRecDepth 100000 in
theorem open_play {r : Reach} {b0 : Nat} {v : Value} {d : DataW H} {ps : List MemPlace} (hG : 0 < w.heap.size) (hval : Value.okWide Tryz.prog w r b0 61 v) (hd : DataW.Trod enc Tryz.prog w base (fun _ => true) held 61 v d ps) :
    ∃ (t : Int) (B : Nat) (ao : Option Addr) (nn cap : Nat) (L : Nat → Int × ByteArray) (sl : Value), v = .agg #[.int .i64 t, .slice ao nn cap] ∧ Recs w B ao nn cap L sl ∧ ∀ ts r, (DataW.weightsEach Tryz.prog (61 :: ts) (d :: r)).all (· ≤ reachBytes) = true → nn ≤ reachBytes ∧ ∀ i, i < nn → (L i).2.size ≤ reachBytes := by
 obtain ⟨c0, c1, y0, y1, m, rfl, hd', _, hy0, hy1⟩ := open_agg2 Tryz.underlying61 (by kernel_rfl) play_cells hval hd
 obtain ⟨x0, e0, _, _⟩ := DataW.trod_int Tryz.underlying2 hy0
 obtain ⟨B, ao, nn, cap, L, sl, e1, hr, hs⟩ := open_recs hG hy1
 simp at e0 e1
 subst e0 e1
 refine ⟨x0, B, ao, nn, cap, L, sl, rfl, hr, fun ts r hw => hs ?_⟩
 rw [hd'] at hw
 unfold DataW.weightsEach at hw
 rw [List.all_append, Bool.and_eq_true] at hw
 have hw := hw.1
 unfold DataW.weights at hw
 rw [Tryz.underlying61] at hw
 have hw : (DataW.weightsEach Tryz.prog [2, 22] [y0.1, y1.1]).all (· ≤ reachBytes) = true := hw
 unfold DataW.weightsEach at hw
 unfold DataW.weightsEach at hw
 rw [List.all_append, Bool.and_eq_true, List.all_append, Bool.and_eq_true] at hw
 exact hw.2.1
end
end Go.Proofs.YtbophanlmkbfeaaGreatDoor
namespace Go.Proofs.YtbophanlmkbfeaaGreatDoor
open Go.ChangeShapes Go.WideShapes Go.ChangeAt Go.RowKit
def laid2 : List (String × DataW Unit) := [("alidade/field.atZero", Rows.laid_alidade_field_atZero), ("alidade/field.inYear", Rows.laid_alidade_field_inYear)]
theorem gAt : Tryz.prog.globalNamed "alidade/field.atZero" = some 0 := by kernel_rfl
theorem gYr : Tryz.prog.globalNamed "alidade/field.inYear" = some 1 := by kernel_rfl
theorem tAt : (Tryz.prog.globals[0]?).map (·.type) = some 272 := by kernel_rfl
theorem tYr : (Tryz.prog.globals[1]?).map (·.type) = some 273 := by kernel_rfl
theorem cell64 : Tryz.prog.cellsOf 2 = 1 := by kernel_rfl
theorem cell2 : Tryz.prog.cellsOf 271 = 2 := by kernel_rfl
theorem cells54 : Tryz.prog.cellsOf 272 = 54 := by kernel_rfl
theorem cells10 : Tryz.prog.cellsOf 273 = 10 := by kernel_rfl
def pairsD (zs : List (Int × Int)) : List (DataW Unit) := zs.map fun z => Lib.tabData .i64 [z.1, z.2]
theorem pair_at {w : World} {fuel : Nat} {cs : List Value} {z : Int × Int} {p : List MemPlace} (h : DataW.trod (fun _ => ()) Tryz.prog w 0 (fun _ => true) false fuel 271 cs = some (Lib.tabData .i64 [z.1, z.2], p)) : cs = [.int .i64 z.1, .int .i64 z.2] :=
 Lib.cells_of_tab Tryz.underlying271 Tryz.underlying2 cell64 cell2 h
theorem tab_cells {w : World} {fuel n : Nat} {t : TypeId} {cs : List Value} {zs : List (Int × Int)} {p : List MemPlace} (ht : Tryz.prog.underlying t = some (.array n 271)) (hc : Tryz.prog.cellsOf t = 2 * n)
    (h : DataW.trod (fun _ => ()) Tryz.prog w 0 (fun _ => true) false fuel t cs = some (.agg (pairsD zs), p)) : cs.length = 2 * n ∧ ∀ i, i < n → cs[2 * i]? = some (.int .i64 (zs.getD i (0, 0)).1) ∧ cs[2 * i + 1]? = some (.int .i64 (zs.getD i (0, 0)).2) := by
 obtain ⟨xs, m, rfl, hx, hl, hn, hel⟩ := DataW.trod_array ht h
 refine ⟨by rw [hl, hc], fun i hi => ?_⟩
 simp only [Prod.mk.injEq, DataW.agg.injEq] at hx
 have hz : zs.length = n := by
  have := congrArg List.length hx.1
  unfold pairsD at this
  simp at this
  omega
 have h1 := hel i hi
 have hxi : i < xs.length := by omega
 have e1 : xs[i]? = some xs[i] := List.getElem?_eq_getElem hxi
 have e2 : xs[i].1 = Lib.tabData .i64 [(zs.getD i (0, 0)).1, (zs.getD i (0, 0)).2] := by
  have a : (pairsD zs)[i]? = (xs.map (·.1))[i]? := by rw [hx.1]
  unfold pairsD at a
  rw [List.getElem?_map, List.getElem?_map, e1] at a
  have b : zs[i]? = some (zs.getD i (0, 0)) := by rw [List.getD_eq_getElem?_getD, List.getElem?_eq_getElem (by omega)]; rfl
  rw [b] at a
  simp only [Option.map_some, Option.some.injEq] at a
  exact a.symm
 rw [e1, cell2] at h1
 have h2 := pair_at (z := zs.getD i (0, 0)) (p := xs[i].2) (h1.trans (by rw [← e2]))
 have g0 : ((cs.drop (i * 2)).take 2)[0]? = some (.int .i64 (zs.getD i (0, 0)).1) := by rw [h2]; rfl
 have g1 : ((cs.drop (i * 2)).take 2)[1]? = some (.int .i64 (zs.getD i (0, 0)).2) := by rw [h2]; rfl
 rw [List.getElem?_take_of_lt (by decide), List.getElem?_drop] at g0 g1
 rw [show i * 2 + 0 = 2 * i by omega] at g0
 rw [show i * 2 + 1 = 2 * i + 1 by omega] at g1
 exact ⟨g0, g1⟩
def atP : List (Int × Int) := [(-293500, 0), (-14103, 45455), (-25562, 0), (29509, -31336), (16487, -8142), (13609, 0), (-24042, -569), (12438, 2376), (4534, -5496), (8947, 0), (7996, 2786), (558, -1340), (-2811, 2120), (120, -3754), (-2329, 0), (3690, 453), (1872, 2200), (-1387, -1229), (-1419, 429), (209, 1062), (643, 0), (638, -184), (767, 168), (-1157, 489), (-409, -598), (149, 109), (-608, 728)]
def yrP : List (Int × Int) := [(126, 0), (100, -215), (-112, 0), (-53, -273), (-83, -111)]
theorem atP_at (i : Nat) (h : i < 27) : (atP.getD i (0, 0)).1 = at0 (2 * i) ∧ (atP.getD i (0, 0)).2 = at0 (2 * i + 1) := by
 have a : ((List.range 27).all fun i => decide ((atP.getD i (0, 0)).1 = at0 (2 * i) ∧ (atP.getD i (0, 0)).2 = at0 (2 * i + 1))) = true := by decide +kernel
 exact of_decide_eq_true (List.all_eq_true.1 a i (List.mem_range.2 h))
theorem yrP_at (i : Nat) (h : i < 5) : (yrP.getD i (0, 0)).1 = yr0 (2 * i) ∧ (yrP.getD i (0, 0)).2 = yr0 (2 * i + 1) := by
 have a : ((List.range 5).all fun i => decide ((yrP.getD i (0, 0)).1 = yr0 (2 * i) ∧ (yrP.getD i (0, 0)).2 = yr0 (2 * i + 1))) = true := by decide +kernel
 exact of_decide_eq_true (List.all_eq_true.1 a i (List.mem_range.2 h))
theorem arr_of {W : World} {name : String} {g n : Nat} {cs : Array Value} {zs : List (Int × Int)} {f : Nat → Int} {ps : List MemPlace} (hg : Tryz.prog.globalNamed name = some g) (hv : W.var? Tryz.prog name = some cs) (hl : cs.toList.length = 2 * n)
    (hc : ∀ i, i < n → cs.toList[2 * i]? = some (.int .i64 (zs.getD i (0, 0)).1) ∧ cs.toList[2 * i + 1]? = some (.int .i64 (zs.getD i (0, 0)).2)) (hf : ∀ i, i < n → (zs.getD i (0, 0)).1 = f (2 * i) ∧ (zs.getD i (0, 0)).2 = f (2 * i + 1))
    (hp : ∀ i, i < cs.size → MemPlace.cell g i ∈ ps) (hfz : ∀ b off, MemPlace.cell b off ∈ ps → (∃ c t, W.heap[b]? = some (.cells c t (0, 0))) ∧ ∀ u v, W.cell? ⟨b, off, none⟩ = some (.iface u v) → Value.okWide Tryz.prog W .any 0 u v) (n0 : 0 < n) : Arr g (row (2 * n) f) W := by
 have hsz : cs.size = 2 * n := by simpa using hl
 obtain ⟨⟨c, t, hb⟩, _⟩ := hfz g 0 (hp 0 (by omega))
 refine ⟨fun i hi => ?_, fun i _ => ?_, (Array.getElem?_eq_some_iff.1 hb).1⟩
 ·have hi' : i < 2 * n := by rw [row_len] at hi; exact hi
  rw [row_get, World.var?_cell hg hv i, ← Array.getElem?_toList]
  obtain ⟨h0, h1⟩ := hc (i / 2) (by omega)
  obtain ⟨f0, f1⟩ := hf (i / 2) (by omega)
  by_cases e : i % 2 = 0
  ·rw [show 2 * (i / 2) = i by omega] at h0 f0
   rw [h0, f0]
  ·rw [show 2 * (i / 2) + 1 = i by omega] at h1 f1
   rw [h1, f1]
 ·unfold World.frozen?
  show (match W.heap[g]? with | some (.cells _ _ (lo, hi)) => decide (lo ≤ i) && decide (i < hi) | _ => false) = false
  rw [hb]
  simp
theorem of_laid {W : World} (h : laidMetH Tryz.prog laid2 W) : Arr 0 (row 54 at0) W ∧ Arr 1 (row 10 yr0) W := by
 rw [MakeChecks.laidMetH_plain _ _ _ (by kernel_rfl)] at h
 obtain ⟨ps, ⟨g0, t0, cs0, f0, p0, q0, hg0, ht0, hv0, hd0, ⟨g1, t1, cs1, f1, p1, q1, hg1, ht1, hv1, hd1, _, e1⟩, e0⟩, _, hfz⟩ := h
 obtain rfl := Option.some.inj (gAt.symm.trans hg0)
 obtain rfl := Option.some.inj (gYr.symm.trans hg1)
 obtain rfl := Option.some.inj (tAt.symm.trans ht0)
 obtain rfl := Option.some.inj (tYr.symm.trans ht1)
 obtain ⟨l0, c0⟩ := tab_cells (n := 27) (zs := atP) Tryz.underlying272 cells54 (show DataW.trod _ Tryz.prog W 0 _ false f0 272 cs0.toList = some (.agg (pairsD atP), p0) from hd0)
 obtain ⟨l1, c1⟩ := tab_cells (n := 5) (zs := yrP) Tryz.underlying273 cells10 (show DataW.trod _ Tryz.prog W 0 _ false f1 273 cs1.toList = some (.agg (pairsD yrP), p1) from hd1)
 have m0 : ∀ i, i < cs0.size → MemPlace.cell 0 i ∈ ps := fun i hi => by rw [e0]; simp [MemPlace.row, hi]
 have m1 : ∀ i, i < cs1.size → MemPlace.cell 1 i ∈ ps := fun i hi => by rw [e0, e1]; simp [MemPlace.row, hi]
 exact ⟨arr_of (n := 27) gAt hv0 l0 c0 atP_at m0 hfz (by decide), arr_of (n := 5) gYr hv1 l1 c1 yrP_at m1 hfz (by decide)⟩
theorem door_met (os : Os) (args : Array Value) : laidMetH Tryz.prog laid2 ((World.doorLaid Tryz.prog 51 os).forCall (fun _ _ => 0) ⟨#[], args, []⟩).memory :=
 laidMetH_of_parts3 (fuel := 8) (laidMet_of_run' 8 (by kernel_rfl) (by kernel_rfl)) (by kernel_rfl) (by kernel_rfl)
end Go.Proofs.YtbophanlmkbfeaaGreatDoor
