/-
A part.
A part.
A part.
-/
import Derived.Test.YtbophanlmkbfeaaGreatDoorRows
import Derived.Deep.Slices
import Derived.ChangeSlices
import Derived.ChangeSame
import Derived.Carry
import Derived.WalkKit
import Derived.ProofKit
import Derived.OpenShut
import Derived.Lib.SmallJoins
import Derived.Lib.LaidTab
import Derived.LaidMore
import Derived.MakeChecks
import Derived.Test.YtbophanlmkbfeaaGreatDoorHO14
import Derived.Test.YtbophanlmkbfeaaGreatDoorHO34
import Derived.Test.YtbophanlmkbfeaaGreatDoorHO37
import Derived.Test.YtbophanlmkbfeaaGreatDoorHO35
import Derived.Test.YtbophanlmkbfeaaGreatDoorHO02
import Derived.Test.YtbophanlmkbfeaaGreatDoorHO15
namespace Go.Proofs.YtbophanlmkbfeaaGreatDoor
open Go.RowKit
def rreadCt : Ct Tryz.prog := predCt Tryz.prog 21 (lone' cFra) (fun x K => x.1 = 16 ∧ K (kOrd.enc (oreadT x))) (fun _ _ _ hK hs => ⟨hs.1, hK _ hs.2⟩) (go_of Tryz.func21 (by kernel_rfl) (by kernel_rfl))
 (fun x w hw K hs => by
  obtain ⟨k, s⟩ := x
  obtain ⟨hk, hs⟩ := hs
  dsimp only at hk
  subst hk
  refine Calls.mono (rread16 s w hw) ?_
  rintro e w' ⟨rfl, hb⟩
  exact ⟨_, rfl, rfl, hs, hb⟩)
def owK : List Nat := [4, 5, 6, 9, 10, 11, 12, 13, 15, 39, 40, 38]
def owF (S : OrS) (left : ByteArray) (n i : Int) (sl : Value) (d : Nat → Value) : List Value := frm [(4, ptr 0), (5, ptr 1), (6, ptr 2), (9, .int .i64 S.1), (10, .int .i64 S.2.1), (11, .bool S.2.2.1), (12, ptr 3), (13, .int .i64 S.2.2.2.2), (15, .string left), (39, .int .i64 n), (40, .int .i64 i), (38, sl)] d 103
def owE (S : OrS) (left : ByteArray) (n i : Int) (sl : Value) (d : Nat → Value) : List Value := vset ((owF S left n i sl d).set 41 (.bool (decide (i < n)))) (.tmp 41) false
def owM (c e : Cra) (T : Tel) (S : OrS) (l : List (UInt8 × List UInt8)) : Xm := [dCra.enc c, dCra.enc e, tEnc 13 T, tEnc 7 S.2.2.2.1, cellsOf l]
def owO (l : List (UInt8 × List UInt8)) : Ov := fun id => match id with
 | 2 => some fun _ _ => wScan
 | 3 => some fun _ _ => wMany owK l
 | 5 => some fun _ _ => wOne l
 | 15 => some (cutBy Tryz.prog [rreadCt] (fun _ => []) 15 owK 103 5)
 | _ => none
def owB (P : Program) : Code := cpart [true, true, true, false, true] (bodyOf P 20)
def owL (P : Program) : Code := cpart [false, false] (owB P)
def owZ (P : Program) : Code := cpart [true, true, true, true] (bodyOf P 20)
abbrev owS (l : List (UInt8 × List UInt8)) (n : Nat) (c : Code) : VQ → List Value → Xm → Prop := swpO Tryz.prog [rreadCt] (fun _ => []) n (owO l) c
def owN (c e : Cra) (T : Tel) (l : List (UInt8 × List UInt8)) (left : ByteArray) (nn i : Int) (sl : Value) (Q : VQ) (S : OrS) : Prop :=
 103 = 103 ∧ (ptrOk 5 sl && true) = true ∧ ∀ d, Q .normal (owF S left nn (IntKind.i64.wrap (i + 1)) sl d) (owM c e T S l)
def owR (S : OrS) (o : Tup 9 × Int) (K : OrS → Prop) : Prop :=
 vif (decide (o.1.2.1 = 1)) (K (o.1.1, o.2, S.2.2.1, S.2.2.2.1, o.1.2.1)) (vif (decide (o.1.2.1 = 2)) (K (o.1.1, o.2, S.2.2.1, S.2.2.2.1, o.1.2.1)) (vif (decide (o.1.2.1 = 3)) (K (o.1.1, o.2, true, o.1.2.2, S.2.2.2.2)) (K (o.1.1, o.2, S.2.2.1, S.2.2.2.1, S.2.2.2.2))))
section
variable (l : List (UInt8 × List UInt8)) (n : Nat) (c e : Cra) (T : Tel) (S : OrS) (left : ByteArray) (Q : VQ)
set_option maxRecDepth 100000 in
theorem ow_round (nn i : Int) (sl : Value) (d : Nat → Value) : owS l n (owL Tryz.prog) Q (owF S left nn i sl d) (owM c e T S l) =
    vif (decide (i < nn)) ((0 ≤ i ∧ i.toNat < l.length) ∧ SlAt 4 sl l ∧ some (cellsOf l) = some (cellsOf l) ∧ 5 = 5 ∧ 103 = 103 ∧
      vif (!decide ((frL l i).1 = 16)) (owN c e T l left nn i sl Q S) ((frL l i).1 = 16 ∧ owR S (oreadT (frL l i)) (owN c e T l left nn i sl Q)))
    (Q (.exit 0) (owE S left nn i sl d) (owM c e T S l)) := by kernel_rfl
def owQ : VQ := fun e vt m => match e with
 | .normal => owS l n (owZ Tryz.prog) Q vt m
 | e => Q e vt m
def owX (sl : Value) : Prop := SlAt 4 sl l ∧ 103 = 103 ∧ 103 = 103 ∧ (ptrOk 5 sl && true) = true ∧ ∀ d, owS l n (owB Tryz.prog) (owQ l n Q) (owF S left l.length 0 sl d) (owM c e T S l)
set_option maxRecDepth 100000 in
theorem ow_start (b : ByteArray) : owS (frsOf c b) n (bodyOf Tryz.prog 20) Q ((then' cCra (then' cCra (then' (cT 13) (lone' cS)))).enc (c, e, T, b) ++ List.replicate ((fnOf Tryz.prog 20).ntmps - ((then' cCra (then' cCra (then' (cT 13) (lone' cS)))).enc (c, e, T, b)).length) undef) [] =
    (c.2.2.1.size + b.size ≤ 5000 ∧ 4 = 4 ∧ 103 = 103 ∧ ∀ sl, SlAt 4 sl (frsOf c b) → owX (frsOf c b) n c e T (begS c) (restOf (c.2.2.1 ++ b).data.toList) Q sl) := by kernel_rfl
def eqOr (a b : Tup 7) : Bool := a.1 == b.1 && (a.2.1 == b.2.1 && (a.2.2.1 == b.2.2.1 && (a.2.2.2.1 == b.2.2.2.1 && (a.2.2.2.2.1 == b.2.2.2.2.1 && (a.2.2.2.2.2.1 == b.2.2.2.2.2.1 && (a.2.2.2.2.2.2.1 == b.2.2.2.2.2.2.1 && true))))))
theorem eqOr_self (a : Tup 7) : eqOr a a = true := by unfold eqOr; simp
def owV (Post : Value → Prop) : Prop :=
 vif (decide (T.2.2.2.1 = S.1)) (vif (decide (T.2.2.2.2.1 = S.2.1)) (vif (e.2.2.2.2.1 == S.2.2.1) (vif (eqOr e.2.2.2.2.2.1 S.2.2.2.1) (Post (.bool (e.2.2.1.toList == left.toList))) (Post (.bool false))) (Post (.bool false))) (Post (.bool false))) (Post (.bool false))
set_option maxRecDepth 100000 in
theorem ow_end (nn i : Int) (sl : Value) (d : Nat → Value) (Post : Value → Prop) : owS l n (owZ Tryz.prog) (retQ Tryz.prog (fnOf Tryz.prog 20) (fun v _ => Post v)) (owE S left nn i sl d) (owM c e T S l) =
    vif (decide (S.2.2.2.2 = 1)) (vif (!decide ((cPlan e).1 = 3)) (Post (.bool false)) (owV e T S left Post)) (owV e T S left Post) := by kernel_rfl
end
theorem lawR {S : OrS} {f : Fra} {K : OrS → Prop} (h : K (lawF S f)) : vif (!decide (f.1 = 16)) (K S) (f.1 = 16 ∧ owR S (oreadT f) K) := by
 unfold lawF at h
 by_cases hf : f.1 = 16
 ·rw [decide_eq_true hf]
  rw [if_pos hf] at h
  refine ⟨hf, ?_⟩
  generalize oreadT f = o at h ⊢
  unfold lawS at h
  unfold owR
  by_cases h1 : o.1.2.1 = 1
  ·rw [decide_eq_true h1]; rw [if_pos h1] at h; exact h
  rw [decide_eq_false h1]; rw [if_neg h1] at h
  by_cases h2 : o.1.2.1 = 2
  ·rw [decide_eq_true h2]; rw [if_pos h2] at h; exact h
  rw [decide_eq_false h2]; rw [if_neg h2] at h
  by_cases h3 : o.1.2.1 = 3
  ·rw [decide_eq_true h3]; rw [if_pos h3] at h; exact h
  rw [decide_eq_false h3]; rw [if_neg h3] at h
  exact h
 ·rw [decide_eq_false hf]
  rw [if_neg hf] at h
  exact h
theorem ow_loop {l : List (UInt8 × List UInt8)} {c e : Cra} {T : Tel} {left : ByteArray} {sl : Value} {G : VQ → List Value → Xm → Prop} (hG : ∀ S Q nn i d, G Q (owF S left nn i sl d) (owM c e T S l) =
    vif (decide (i < nn)) ((0 ≤ i ∧ i.toNat < l.length) ∧ SlAt 4 sl l ∧ some (cellsOf l) = some (cellsOf l) ∧ 5 = 5 ∧ 103 = 103 ∧ vif (!decide ((frL l i).1 = 16)) (owN c e T l left nn i sl Q S) ((frL l i).1 = 16 ∧ owR S (oreadT (frL l i)) (owN c e T l left nn i sl Q)))
    (Q (.exit 0) (owE S left nn i sl d) (owM c e T S l))) (hl : l.length ≤ 5000) (hs : SlAt 4 sl l) (Q : VQ) (rest : List (UInt8 × List UInt8)) : ∀ (pre : List (UInt8 × List UInt8)), l = pre ++ rest → ∀ (d : Nat → Value) (S : OrS),
    (∀ i d, Q (.exit 0) (owE ((rest.map fraOf).foldl lawF S) left l.length i sl d) (owM c e T ((rest.map fraOf).foldl lawF S) l)) →
    loopN (rest.length + 1) G Q (owF S left l.length pre.length sl d) (owM c e T S l) := by
 have hp := hs.ptr (k2 := 5) (by decide)
 induction rest with
 | nil =>
  intro pre e d s hQ
  have e1 : l.length = pre.length := by rw [e]; simp
  rw [List.length_nil, loopN, hG, decide_eq_false (by omega)]
  exact hQ _ d
 | cons f rest ih =>
  intro pre e d S hQ
  have e1 : l.length = pre.length + (rest.length + 1) := by rw [e]; simp
  rw [List.length_cons, loopN, hG, decide_eq_true (by omega)]
  refine ⟨⟨by omega, by rw [Int.toNat_natCast]; omega⟩, hs, rfl, rfl, rfl, lawR ?_⟩
  refine ⟨rfl, by rw [hp]; rfl, fun d => ?_⟩
  have hw : IntKind.i64.wrap ((pre.length : Int) + 1) = ((pre ++ [f]).length : Nat) := by
   rw [IntKind.wrap_i64, List.length_append, List.length_singleton]
   omega
  have hf : frL l (pre.length : Nat) = fraOf f := by rw [e]; exact frL_at pre rest f
  rw [hw, hf]
  exact ih (pre ++ [f]) (by rw [e]; simp) d (lawF S (fraOf f)) hQ
set_option maxRecDepth 100000 in
theorem ow_ov (l : List (UInt8 × List UInt8)) (w : World) : OvOk Tryz.prog (owO l) [] w [] [] (bodyOf Tryz.prog 20) := by
 refine ovOk_by (ns := [(2, #[(opOf Tryz.prog 20 2 0), (opOf Tryz.prog 20 2 1), (opOf Tryz.prog 20 2 2), (opOf Tryz.prog 20 2 3), (opOf Tryz.prog 20 2 4), (opOf Tryz.prog 20 2 5), (opOf Tryz.prog 20 2 6), (opOf Tryz.prog 20 2 7), (opOf Tryz.prog 20 2 8), (opOf Tryz.prog 20 2 9), (opOf Tryz.prog 20 2 10), (opOf Tryz.prog 20 2 11)], false), (3, #[(opOf Tryz.prog 20 3 0), (opOf Tryz.prog 20 3 1), (opOf Tryz.prog 20 3 2)], false), (5, #[(opOf Tryz.prog 20 5 0), (opOf Tryz.prog 20 5 1), (opOf Tryz.prog 20 5 2), (opOf Tryz.prog 20 5 3)], false), (15, opsOf Tryz.prog 20 15, false)]) (by kernel_rfl) ?_
 intro r hr
 rcases List.mem_cons.1 hr with rfl | hr
 ·intro R hR K Q bl vt m a w h r hK
  cases hR
  exact wScan_sound (tC := 42) (tT := 9) (fn := 17) rfl (by kernel_rfl) (by kernel_rfl) rfl ⟨by kernel_rfl, by kernel_rfl, by kernel_rfl⟩ ⟨by kernel_rfl, by kernel_rfl, by kernel_rfl⟩ ⟨by kernel_rfl, by kernel_rfl, by kernel_rfl⟩ ⟨by kernel_rfl, by kernel_rfl, by kernel_rfl⟩ ⟨by kernel_rfl, by kernel_rfl, by kernel_rfl⟩ ⟨by kernel_rfl, by kernel_rfl, by kernel_rfl⟩ ⟨by kernel_rfl, by kernel_rfl, by kernel_rfl⟩ ⟨by kernel_rfl, by kernel_rfl, by kernel_rfl⟩ ⟨by kernel_rfl, by kernel_rfl, by kernel_rfl⟩ ⟨by kernel_rfl, by kernel_rfl, by kernel_rfl⟩ ⟨by kernel_rfl, by kernel_rfl, by kernel_rfl⟩ ⟨by kernel_rfl, by kernel_rfl, by kernel_rfl⟩ h r hK
 rcases List.mem_cons.1 hr with rfl | hr
 ·intro R hR K Q bl vt m a w h r hK
  cases hR
  exact wMany_sound (tS := 64) (e := 49) (by decide) (by kernel_rfl) rfl ⟨by kernel_rfl, by kernel_rfl, by kernel_rfl⟩ ⟨by kernel_rfl, by kernel_rfl, by kernel_rfl⟩ ⟨by kernel_rfl, by kernel_rfl, by kernel_rfl⟩ h r hK
 rcases List.mem_cons.1 hr with rfl | hr
 ·intro R hR K Q bl vt m a w h r hK
  cases hR
  exact wOne_sound (tS := 64) (tF := 49) (z := .agg #[.int .i64 0, .string ⟨#[]⟩]) (by kernel_rfl) (by kernel_rfl) (by kernel_rfl) (by kernel_rfl) rfl rfl ⟨by kernel_rfl, by kernel_rfl, by kernel_rfl⟩ ⟨by kernel_rfl, by kernel_rfl, by kernel_rfl⟩ ⟨by kernel_rfl, by kernel_rfl, by kernel_rfl⟩ ⟨by kernel_rfl, by kernel_rfl, by kernel_rfl⟩ h r hK
 rcases List.mem_cons.1 hr with rfl | hr
 ·intro R hR K Q bl vt m a w h r hK
  cases hR
  exact cutBy_sound xmixA (by decide) h r hK
 ·cases hr
theorem owV_of {e : Cra} {T : Tel} {S : OrS} {left : ByteArray} {Post : Value → Prop} (hP : Post (.bool true)) (h1 : T.2.2.2.1 = S.1) (h2 : T.2.2.2.2.1 = S.2.1) (h3 : e.2.2.2.2.1 = S.2.2.1) (h4 : e.2.2.2.2.2.1 = S.2.2.2.1) (h5 : e.2.2.1 = left) : owV e T S left Post := by
 unfold owV
 rw [decide_eq_true h1, decide_eq_true h2, h3, h4, h5, eqOr_self, beq_self_eq_true, beq_self_eq_true]
 exact hP
set_option maxRecDepth 100000 in
theorem orders1_ok : HeldOk 20 OrdHeld := by
 intro c e T b hH w hw
 obtain ⟨hs, hsafe, h1, h2, h3, h4, h5⟩ := hH
 refine pure_atO (d := then' cCra (then' cCra (then' (cT 13) (lone' cS)))) (k := cB) (x := (c, e, T, b)) (y := true) (tbl := [rreadCt]) (dirty := fun _ => []) (n := (frsOf c b).length + 1) (ov := owO (frsOf c b)) xmixA (by kernel_rfl) (by kernel_rfl) (ow_ov _) ?_ w hw
 have hL : (frsOf c b).length ≤ 5000 := Nat.le_trans (scan_len _) (by simpa [ByteArray.size_append] using hs)
 refine Eq.mpr (ow_start ((frsOf c b).length + 1) c e T _ b) ⟨hs, rfl, rfl, fun sl hsl => ?_⟩
 refine ⟨hsl, rfl, rfl, by rw [hsl.ptr (k2 := 5) (by decide)]; rfl, fun d => ?_⟩
 generalize frsOf c b = l at *
 refine ow_loop (fun S Q nn i d => ow_round l (l.length + 1) c e T S _ Q nn i sl d) hL hsl _ l [] rfl d (begS c) (fun i d => ?_)
 generalize (l.map fraOf).foldl lawF (begS c) = S at *
 refine Eq.mpr (ow_end l (l.length + 1) c e T S _ _ i sl d (fun v => v = cB.enc true)) ?_
 have hv := owV_of (Post := fun v => v = cB.enc true) rfl h1 h2 h3 h4 h5
 by_cases ho : S.2.2.2.2 = 1
 ·rw [decide_eq_true ho, decide_eq_true (hsafe ho)]
  exact hv
 ·rw [decide_eq_false ho]
  exact hv
end Go.Proofs.YtbophanlmkbfeaaGreatDoor
namespace Go.Proofs.YtbophanlmkbfeaaGreatDoor
open Go.ChangeShapes Go.WideShapes Go.ChangeAt Go.RowKit Go.Joins
theorem laid_out : laidOutB Tryz.prog = true := by kernel_rfl
theorem play_cells : Tryz.prog.cellsOf 61 = 2 := by kernel_rfl
theorem rec_cells : Tryz.prog.cellsOf 44 = 2 := by kernel_rfl
theorem str_one : Tryz.prog.cellsOf 9 = 1 := by kernel_rfl
theorem i64_one : Tryz.prog.cellsOf 2 = 1 := by kernel_rfl
section
variable {H : Type} {enc : TypeId × Value → H} {w : World} {base : Nat} {held : Bool}
theorem trod_rec {spare : Nat → Bool} {fuel : Nat} {c0 c1 : Value} {x : DataW H × List MemPlace} (hf : DataW.trod enc Tryz.prog w base spare held fuel 44 [c0, c1] = some x) :
    ∃ a : Int × ByteArray, c0 = .int .i64 a.1 ∧ c1 = .string a.2 ∧ x.1 = .agg [.lit (.int .i64 a.1), .lit (.string a.2.data.toList)] := by
 obtain ⟨y0, y1, n, hx, _, h0, h1⟩ := trod_struct2 Tryz.underlying44 hf
 obtain ⟨x0, e0, rfl, _⟩ := DataW.trod_int Tryz.underlying2 h0
 obtain ⟨x1, e1, rfl, w1⟩ := DataW.trod_string Tryz.underlying9 h1
 simp only [i64_one, List.drop_zero, List.take_succ_cons, List.take_zero, List.cons.injEq, and_true] at e0
 simp only [str_one, List.drop_succ_cons, List.drop_zero, List.take_succ_cons, List.take_zero, List.cons.injEq, and_true] at e1
 exact ⟨(x0, x1), e0, e1, by rw [hx]⟩
theorem weight_in {e : TypeId} {d : DataW H} {n : Nat} (hn : n ∈ d.weights Tryz.prog e) : ∀ l : List (DataW H), d ∈ l → n ∈ DataW.weightsAll Tryz.prog e l
 | [], h => by cases h
 | x :: l, h => by
  unfold DataW.weightsAll
  rcases List.mem_cons.1 h with rfl | h
  ·exact List.mem_append_left _ hn
  ·exact List.mem_append_right _ (weight_in hn l h)
theorem rec_weight (a : Int × ByteArray) : a.2.data.toList.length ∈ DataW.weights Tryz.prog 44 (.agg [.lit (.int .i64 a.1), .lit (.string a.2.data.toList)] : DataW H) := by
 have e : DataW.weights Tryz.prog 44 (.agg [.lit (.int .i64 a.1), .lit (.string a.2.data.toList)] : DataW H) = [a.2.data.toList.length] := by kernel_rfl
 rw [e]
 exact List.mem_singleton_self _
theorem rec_bytes : 1 ≤ Tryz.prog.bytesOf 44 := by
 have e : Tryz.prog.bytesOf 44 = 24 := by kernel_rfl
 omega
set_option maxRecDepth 100000 in
theorem open_recs {fuel : Nat} {cs : List Value} {x : DataW H × List MemPlace} (hG : 0 < w.heap.size) (h : DataW.trod enc Tryz.prog w base (fun _ => true) held fuel 22 cs = some x) :
    ∃ (B : Nat) (ao : Option Addr) (nn cap : Nat) (L : Nat → Int × ByteArray) (sl : Value), cs = [.slice ao nn cap] ∧ Recs w B ao nn cap L sl ∧ ((DataW.weights Tryz.prog 22 x.1).all (· ≤ reachBytes) = true → nn ≤ reachBytes ∧ ∀ i, i < nn → (L i).2.size ≤ reachBytes) := by
 rcases Go.Deep.open_slice Tryz.underlying22 h with ⟨h0, _⟩ | ⟨a, len, cap, m, n, D, Pl, rfl, hb, hl, hm, hmm, rfl, hx⟩
 ·exact ⟨0, none, 0, 0, fun _ => (0, ⟨#[]⟩), .slice none 0 0, h0, ⟨fun _ _ => rfl, rfl, hG, fun h => absurd h (Nat.not_lt_zero _), fun i h => absurd h (Nat.not_lt_zero i)⟩, fun _ => ⟨Nat.zero_le _, fun i h => absurd h (Nat.not_lt_zero i)⟩⟩
 ·rw [if_pos rfl] at hmm
  have each : ∀ i, i < len → ∃ v : Int × ByteArray, w.cell? (a.add (i * 2)) = some (.int .i64 v.1) ∧ w.cell? (a.add (i * 2 + 1)) = some (.string v.2) ∧ D i = .agg [.lit (.int .i64 v.1), .lit (.string v.2.data.toList)] := by
   intro i hi
   obtain ⟨cs', h1, h2⟩ := hx i (by omega)
   rw [rec_cells] at h1
   obtain ⟨_, hlen, hcell⟩ := World.cells?_some h1
   match cs', hlen with
   | [c0, c1], _ =>
    obtain ⟨v, rfl, rfl, hv⟩ := trod_rec h2
    have g0 := hcell 0 (by omega)
    have g1 := hcell 1 (by omega)
    rw [Go.Deep.add_add] at g0 g1
    exact ⟨v, g0, g1, hv⟩
  have inh : Inhabited (Int × ByteArray) := ⟨(0, ⟨#[]⟩)⟩
  obtain ⟨L, hL⟩ := Go.Deep.choose_lt each
  by_cases h0 : len = 0
  ·subst h0
   exact ⟨0, some a, 0, cap, L, .nilIface, rfl, ⟨fun _ _ => rfl, rfl, hG, fun h => absurd h (Nat.not_lt_zero _), fun i h => absurd h (Nat.not_lt_zero i)⟩, fun _ => ⟨Nat.zero_le _, fun i h => absurd h (Nat.not_lt_zero i)⟩⟩
  ·obtain ⟨B, o, sp⟩ := a
   have s0 := (hL 0 (by omega)).1
   obtain rfl : sp = none := by simpa [Addr.add] using World.cell?_spot s0
   have hB : B < w.heap.size := by simpa [Addr.add] using World.block_lt_of_cell? _ _ s0
   simp only [add_is] at hL
   refine ⟨B, some ⟨B, o, none⟩, len, cap, L, .slice (some ⟨0, o, none⟩) len cap, rfl, ⟨fun bl hbl => ⟨B, hbl, rfl⟩, rfl, hB, (fun _ h => by cases h), fun i hi => ⟨o, rfl, (hL i hi).1, (hL i hi).2.1⟩⟩, fun hw => ?_⟩
   have hw : (DataW.weights Tryz.prog 22 (.slice ((List.range len).map D) ((List.range (m - len)).map fun j => D (len + j)))).all (· ≤ reachBytes) = true := hw
   unfold DataW.weights at hw
   rw [Tryz.underlying22] at hw
   simp only [List.all_eq_true, decide_eq_true_eq] at hw
   refine ⟨?_, fun i hi => ?_⟩
   ·have h1 := hw _ List.mem_cons_self
    rw [List.length_map, List.length_range] at h1
    have h2 : len * 1 ≤ (len + ((List.range (m - len)).map fun j => D (len + j)).length) * Tryz.prog.bytesOf 44 := Nat.mul_le_mul (Nat.le_add_right _ _) rec_bytes
    omega
   ·have h1 := rec_weight (H := H) (L i)
    rw [← (hL i hi).2.2] at h1
    exact hw _ (List.mem_cons_of_mem _ (List.mem_append_left _ (weight_in h1 _ (List.mem_map.2 ⟨i, List.mem_range.2 hi, rfl⟩))))
set_option maxRecDepth 100000 in
theorem open_play {r : Reach} {b0 : Nat} {v : Value} {d : DataW H} {ps : List MemPlace} (hG : 0 < w.heap.size) (hval : Value.okWide Tryz.prog w r b0 61 v) (hd : DataW.Trod enc Tryz.prog w base (fun _ => true) held 61 v d ps) :
    ∃ (t : Int) (B : Nat) (ao : Option Addr) (nn cap : Nat) (L : Nat → Int × ByteArray) (sl : Value), v = .agg #[.int .i64 t, .slice ao nn cap] ∧ Recs w B ao nn cap L sl ∧ ∀ ts r, (DataW.weightsEach Tryz.prog (61 :: ts) (d :: r)).all (· ≤ reachBytes) = true → nn ≤ reachBytes ∧ ∀ i, i < nn → (L i).2.size ≤ reachBytes := by
 obtain ⟨c0, c1, y0, y1, m, rfl, hd', _, hy0, hy1⟩ := open_agg2 Tryz.underlying61 (by kernel_rfl) play_cells hval hd
 obtain ⟨x0, e0, _, _⟩ := DataW.trod_int Tryz.underlying2 hy0
 obtain ⟨B, ao, nn, cap, L, sl, e1, hr, hs⟩ := open_recs hG hy1
 simp at e0 e1
 subst e0 e1
 refine ⟨x0, B, ao, nn, cap, L, sl, rfl, hr, fun ts r hw => hs ?_⟩
 rw [hd'] at hw
 unfold DataW.weightsEach at hw
 rw [List.all_append, Bool.and_eq_true] at hw
 have hw := hw.1
 unfold DataW.weights at hw
 rw [Tryz.underlying61] at hw
 have hw : (DataW.weightsEach Tryz.prog [2, 22] [y0.1, y1.1]).all (· ≤ reachBytes) = true := hw
 unfold DataW.weightsEach at hw
 unfold DataW.weightsEach at hw
 rw [List.all_append, Bool.and_eq_true, List.all_append, Bool.and_eq_true] at hw
 exact hw.2.1
end
end Go.Proofs.YtbophanlmkbfeaaGreatDoor
namespace Go.Proofs.YtbophanlmkbfeaaGreatDoor
open Go.ChangeShapes Go.WideShapes Go.ChangeAt Go.RowKit
def laid2 : List (String × DataW Unit) := [("alidade/field.atZero", Rows.laid_alidade_field_atZero), ("alidade/field.inYear", Rows.laid_alidade_field_inYear)]
theorem gAt : Tryz.prog.globalNamed "alidade/field.atZero" = some 0 := by kernel_rfl
theorem gYr : Tryz.prog.globalNamed "alidade/field.inYear" = some 1 := by kernel_rfl
theorem tAt : (Tryz.prog.globals[0]?).map (·.type) = some 272 := by kernel_rfl
theorem tYr : (Tryz.prog.globals[1]?).map (·.type) = some 273 := by kernel_rfl
theorem cell64 : Tryz.prog.cellsOf 2 = 1 := by kernel_rfl
theorem cell2 : Tryz.prog.cellsOf 271 = 2 := by kernel_rfl
theorem cells54 : Tryz.prog.cellsOf 272 = 54 := by kernel_rfl
theorem cells10 : Tryz.prog.cellsOf 273 = 10 := by kernel_rfl
def pairsD (zs : List (Int × Int)) : List (DataW Unit) := zs.map fun z => Lib.tabData .i64 [z.1, z.2]
theorem pair_at {w : World} {fuel : Nat} {cs : List Value} {z : Int × Int} {p : List MemPlace} (h : DataW.trod (fun _ => ()) Tryz.prog w 0 (fun _ => true) false fuel 271 cs = some (Lib.tabData .i64 [z.1, z.2], p)) : cs = [.int .i64 z.1, .int .i64 z.2] :=
 Lib.cells_of_tab Tryz.underlying271 Tryz.underlying2 cell64 cell2 h
theorem tab_cells {w : World} {fuel n : Nat} {t : TypeId} {cs : List Value} {zs : List (Int × Int)} {p : List MemPlace} (ht : Tryz.prog.underlying t = some (.array n 271)) (hc : Tryz.prog.cellsOf t = 2 * n)
    (h : DataW.trod (fun _ => ()) Tryz.prog w 0 (fun _ => true) false fuel t cs = some (.agg (pairsD zs), p)) : cs.length = 2 * n ∧ ∀ i, i < n → cs[2 * i]? = some (.int .i64 (zs.getD i (0, 0)).1) ∧ cs[2 * i + 1]? = some (.int .i64 (zs.getD i (0, 0)).2) := by
 obtain ⟨xs, m, rfl, hx, hl, hn, hel⟩ := DataW.trod_array ht h
 refine ⟨by rw [hl, hc], fun i hi => ?_⟩
 simp only [Prod.mk.injEq, DataW.agg.injEq] at hx
 have hz : zs.length = n := by
  have := congrArg List.length hx.1
  unfold pairsD at this
  simp at this
  omega
 have h1 := hel i hi
 have hxi : i < xs.length := by omega
 have e1 : xs[i]? = some xs[i] := List.getElem?_eq_getElem hxi
 have e2 : xs[i].1 = Lib.tabData .i64 [(zs.getD i (0, 0)).1, (zs.getD i (0, 0)).2] := by
  have a : (pairsD zs)[i]? = (xs.map (·.1))[i]? := by rw [hx.1]
  unfold pairsD at a
  rw [List.getElem?_map, List.getElem?_map, e1] at a
  have b : zs[i]? = some (zs.getD i (0, 0)) := by rw [List.getD_eq_getElem?_getD, List.getElem?_eq_getElem (by omega)]; rfl
  rw [b] at a
  simp only [Option.map_some, Option.some.injEq] at a
  exact a.symm
 rw [e1, cell2] at h1
 have h2 := pair_at (z := zs.getD i (0, 0)) (p := xs[i].2) (h1.trans (by rw [← e2]))
 have g0 : ((cs.drop (i * 2)).take 2)[0]? = some (.int .i64 (zs.getD i (0, 0)).1) := by rw [h2]; rfl
 have g1 : ((cs.drop (i * 2)).take 2)[1]? = some (.int .i64 (zs.getD i (0, 0)).2) := by rw [h2]; rfl
 rw [List.getElem?_take_of_lt (by decide), List.getElem?_drop] at g0 g1
 rw [show i * 2 + 0 = 2 * i by omega] at g0
 rw [show i * 2 + 1 = 2 * i + 1 by omega] at g1
 exact ⟨g0, g1⟩
def atP : List (Int × Int) := [(-293500, 0), (-14103, 45455), (-25562, 0), (29509, -31336), (16487, -8142), (13609, 0), (-24042, -569), (12438, 2376), (4534, -5496), (8947, 0), (7996, 2786), (558, -1340), (-2811, 2120), (120, -3754), (-2329, 0), (3690, 453), (1872, 2200), (-1387, -1229), (-1419, 429), (209, 1062), (643, 0), (638, -184), (767, 168), (-1157, 489), (-409, -598), (149, 109), (-608, 728)]
def yrP : List (Int × Int) := [(126, 0), (100, -215), (-112, 0), (-53, -273), (-83, -111)]
theorem atP_at (i : Nat) (h : i < 27) : (atP.getD i (0, 0)).1 = at0 (2 * i) ∧ (atP.getD i (0, 0)).2 = at0 (2 * i + 1) := by
 have a : ((List.range 27).all fun i => decide ((atP.getD i (0, 0)).1 = at0 (2 * i) ∧ (atP.getD i (0, 0)).2 = at0 (2 * i + 1))) = true := by decide +kernel
 exact of_decide_eq_true (List.all_eq_true.1 a i (List.mem_range.2 h))
theorem yrP_at (i : Nat) (h : i < 5) : (yrP.getD i (0, 0)).1 = yr0 (2 * i) ∧ (yrP.getD i (0, 0)).2 = yr0 (2 * i + 1) := by
 have a : ((List.range 5).all fun i => decide ((yrP.getD i (0, 0)).1 = yr0 (2 * i) ∧ (yrP.getD i (0, 0)).2 = yr0 (2 * i + 1))) = true := by decide +kernel
 exact of_decide_eq_true (List.all_eq_true.1 a i (List.mem_range.2 h))
theorem arr_of {W : World} {name : String} {g n : Nat} {cs : Array Value} {zs : List (Int × Int)} {f : Nat → Int} {ps : List MemPlace} (hg : Tryz.prog.globalNamed name = some g) (hv : W.var? Tryz.prog name = some cs) (hl : cs.toList.length = 2 * n)
    (hc : ∀ i, i < n → cs.toList[2 * i]? = some (.int .i64 (zs.getD i (0, 0)).1) ∧ cs.toList[2 * i + 1]? = some (.int .i64 (zs.getD i (0, 0)).2)) (hf : ∀ i, i < n → (zs.getD i (0, 0)).1 = f (2 * i) ∧ (zs.getD i (0, 0)).2 = f (2 * i + 1))
    (hp : ∀ i, i < cs.size → MemPlace.cell g i ∈ ps) (hfz : ∀ b off, MemPlace.cell b off ∈ ps → (∃ c t, W.heap[b]? = some (.cells c t (0, 0))) ∧ ∀ u v, W.cell? ⟨b, off, none⟩ = some (.iface u v) → Value.okWide Tryz.prog W .any 0 u v) (n0 : 0 < n) : Arr g (row (2 * n) f) W := by
 have hsz : cs.size = 2 * n := by simpa using hl
 obtain ⟨⟨c, t, hb⟩, _⟩ := hfz g 0 (hp 0 (by omega))
 refine ⟨fun i hi => ?_, fun i _ => ?_, (Array.getElem?_eq_some_iff.1 hb).1⟩
 ·have hi' : i < 2 * n := by rw [row_len] at hi; exact hi
  rw [row_get, World.var?_cell hg hv i, ← Array.getElem?_toList]
  obtain ⟨h0, h1⟩ := hc (i / 2) (by omega)
  obtain ⟨f0, f1⟩ := hf (i / 2) (by omega)
  by_cases e : i % 2 = 0
  ·rw [show 2 * (i / 2) = i by omega] at h0 f0
   rw [h0, f0]
  ·rw [show 2 * (i / 2) + 1 = i by omega] at h1 f1
   rw [h1, f1]
 ·unfold World.frozen?
  show (match W.heap[g]? with | some (.cells _ _ (lo, hi)) => decide (lo ≤ i) && decide (i < hi) | _ => false) = false
  rw [hb]
  simp
theorem of_laid {W : World} (h : laidMetH Tryz.prog laid2 W) : Arr 0 (row 54 at0) W ∧ Arr 1 (row 10 yr0) W := by
 rw [MakeChecks.laidMetH_plain _ _ _ (by kernel_rfl)] at h
 obtain ⟨ps, ⟨g0, t0, cs0, f0, p0, q0, hg0, ht0, hv0, hd0, ⟨g1, t1, cs1, f1, p1, q1, hg1, ht1, hv1, hd1, _, e1⟩, e0⟩, _, hfz⟩ := h
 obtain rfl := Option.some.inj (gAt.symm.trans hg0)
 obtain rfl := Option.some.inj (gYr.symm.trans hg1)
 obtain rfl := Option.some.inj (tAt.symm.trans ht0)
 obtain rfl := Option.some.inj (tYr.symm.trans ht1)
 obtain ⟨l0, c0⟩ := tab_cells (n := 27) (zs := atP) Tryz.underlying272 cells54 (show DataW.trod _ Tryz.prog W 0 _ false f0 272 cs0.toList = some (.agg (pairsD atP), p0) from hd0)
 obtain ⟨l1, c1⟩ := tab_cells (n := 5) (zs := yrP) Tryz.underlying273 cells10 (show DataW.trod _ Tryz.prog W 0 _ false f1 273 cs1.toList = some (.agg (pairsD yrP), p1) from hd1)
 have m0 : ∀ i, i < cs0.size → MemPlace.cell 0 i ∈ ps := fun i hi => by rw [e0]; simp [MemPlace.row, hi]
 have m1 : ∀ i, i < cs1.size → MemPlace.cell 1 i ∈ ps := fun i hi => by rw [e0, e1]; simp [MemPlace.row, hi]
 exact ⟨arr_of (n := 27) gAt hv0 l0 c0 atP_at m0 hfz (by decide), arr_of (n := 5) gYr hv1 l1 c1 yrP_at m1 hfz (by decide)⟩
theorem door_met (os : Os) (args : Array Value) : laidMetH Tryz.prog laid2 ((World.doorLaid Tryz.prog 51 os).forCall (fun _ _ => 0) ⟨#[], args, []⟩).memory :=
 laidMetH_of_parts3 (fuel := 8) (laidMet_of_run' 8 (by kernel_rfl) (by kernel_rfl)) (by kernel_rfl) (by kernel_rfl)
end Go.Proofs.YtbophanlmkbfeaaGreatDoor
