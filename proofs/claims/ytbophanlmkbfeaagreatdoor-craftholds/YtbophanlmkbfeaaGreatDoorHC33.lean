/-
A part.
A part.
A part.
A part.
A part.
A part.
A part.
A part.
-/
import Derived.Test.YtbophanlmkbfeaaGreatDoorHC32
import Derived.Test.YtbophanlmkbfeaaGreatDoorHC16
import Derived.Test.YtbophanlmkbfeaaGreatDoorHC20
import Derived.Test.YtbophanlmkbfeaaGreatDoorHC09
import Derived.Test.YtbophanlmkbfeaaGreatDoorHC10
import Derived.Test.YtbophanlmkbfeaaGreatDoorHC12
import Derived.Test.YtbophanlmkbfeaaGreatDoorHC31
namespace Go.Proofs.YtbophanlmkbfeaaGreatDoor
open Go.RowKit
def rLen (sS d0 d1 d2 N : Nat) (n : Nat) (sl : Value) (K : List Value → Xm → Prop) (vt : List Value) (m : Xm) : Prop :=
 vt.getD sS undef = sl ∧ vt.length = N ∧ K (((vt.set d0 sl).set d1 (.int .i64 (n : Nat))).set d2 (.int .i64 0)) m
section
variable {bs : List Nat} {w0 : World} {ds : List Deferred} {bl0 : Bl} {K : List Value → Xm → Prop} {Q : Exit → Act → World → Prop} {bl : Bl} {vt : List Value} {m : Xm} {a : Act} {w : World} {B : Nat} {ao : Option Addr} {n cap : Nat} {L : Nat → Int × ByteArray} {sl : Value}
theorem slot_sl {s : Nat} (hb0 : bl0[0]? = some (some B)) (hr : Recs w0 B ao n cap L sl) (hn : sl ≠ .nilIface) (hs : vt.getD s undef = sl) (r : Rl bs w0 ds bl0 bl vt m a w) : a.eval (.tmp s) = .slice ao n cap := by
 have hsv := r.F.rv s
 rw [hs] at hsv
 have h1 := hr.rv bl (r.le 0 B hb0)
 match sl, h1, hsv with
 | .slice (some b) _ _, ⟨B1, hB1, e1⟩, ⟨B2, hB2, e2⟩ =>
  rw [hB1] at hB2
  cases hB2
  exact e2.trans e1.symm
 | .slice none _ _, h1, h2 => exact h2.trans h1.symm
 | .nilIface, _, _ => exact absurd rfl hn
 | .pointer (some _), ⟨_, _, e1⟩, _ => cases e1
 | .pointer none, h1, _ => cases h1
 | .bool _, h1, _ => cases h1
 | .int _ _, h1, _ => cases h1
 | .float _ _, h1, _ => cases h1
 | .complex _ _ _, h1, _ => cases h1
 | .string _, h1, _ => cases h1
 | .map _, h1, _ => cases h1
 | .chan _, h1, _ => cases h1
 | .func _ _ _, h1, _ => cases h1
 | .nilFunc, h1, _ => cases h1
 | .iface _ _, h1, _ => cases h1
 | .agg _, h1, _ => cases h1
 | .tuple _, h1, _ => cases h1
theorem rLen_sound {ops : Array Oper} {id : Nat} {o0 o1 o2 : Oper} {tS tE : TypeId} {sS d0 d1 d2 N : Nat} (n0 : d0 < N) (n1 : d1 < N) (n2 : d2 < N) (hb0 : bl0[0]? = some (some B)) (hr : Recs w0 B ao n cap L sl) (hn : sl ≠ .nilIface) (hu : Tryz.prog.underlying tS = some (.slice tE)) (ho : ops = #[o0, o1, o2])
    (h0 : o0.dst = some d0 ∧ o0.op = .move (.tmp sS) ∧ o0.guard = none) (h1 : o1.dst = some d1 ∧ o1.op = .call { callee := .builtin .len, args := #[.tmp d0], argTypes := #[tS] } ∧ o1.guard = none) (h2 : o2.dst = some d2 ∧ o2.op = .move (.const (.int .i64 0)) ∧ o2.guard = none)
    (h : rLen sS d0 d1 d2 N n sl K vt m) (r : Rl bs w0 ds bl0 bl vt m a w) (hK : ∀ bl vt m a w, K vt m → Rl bs w0 ds bl0 bl vt m a w → Q .normal a w) : (Code.region id ops false).wp Tryz.prog Q a w := by
 subst ho
 have hlen := r.F.len
 obtain ⟨hp, hlt, hk⟩ := h
 rw [hlt] at hlen
 have EsS := slot_sl hb0 hr hn hp r
 have hrv := hr.rv bl (r.le 0 B hb0)
 have r0 := run_under hu w
 have F := r.F
 have D := r.defers
 refine wp_region ?_
 refine ops_valS (v := sl) (v' := (.slice ao n cap)) (w' := w) rfl h0.1 (unguarded h0.2.2) (by simp [execOp, h0.2.1, EsS]) F D hlen n0 (hrv) fun a F D hlen Ed0 X => ?_
 refine ops_valS (v := .int .i64 (n : Nat)) (v' := (.int .i64 (n : Nat))) (w' := w) rfl h1.1 (unguarded h1.2.2) (by simp [execOp, h1.2.1, resolve, invoke, builtin, Ed0, Builtin.len_, r0, goInt]) F D hlen n1 (rfl) fun a F D hlen Ed1 X => ?_
 refine ops_valS (v := .int .i64 0) (v' := (.int .i64 0)) (w' := w) rfl h2.1 (unguarded h2.2.2) (by simp [execOp, h2.2.1, Act.eval]) F D hlen n2 (rfl) fun a F D hlen Ed2 X => ?_
 exact hK _ _ _ _ _ hk ⟨F, r.R, r.le, r.len, D⟩
theorem seq_rest {ops : Array Oper} {rest : List Nat} {tbl : List (Ct Tryz.prog)} (hnew : ops.all (fun o => !isNew o) = true) (hnd : rest.Nodup) (hk : vseq Tryz.prog tbl ops (nid 0 ops) K rest vt m) (r : Rl bs w0 ds bl0 bl vt m a w) (hK : ∀ bl vt m a w, K vt m → Rl bs w0 ds bl0 bl vt m a w → Q .normal a w) : wpOps Tryz.prog ops Q rest a w := by
 refine vseq_sound (base := 0) (rs := m) (ln := m.length) (bl0 := bl0) (tbl := tbl) (fun bl' vt' m' a' w' hk F R hle hl hml hd => hK bl' vt' m' a' w' hk ⟨F, R, hle, hl.trans hml.symm, hd⟩) rest bl _ m _ w hnd hk r.F r.R (fun _ _ => rfl) ?_ r.le r.len rfl r.defers
 intro i _ o ho hn
 have := Array.all_eq_true_iff_forall_mem.1 hnew o (Array.mem_of_getElem? ho)
 rw [hn] at this
 cases this
end
def fwK : List Nat := [3, 7, 8, 0, 6]
def fwF (s n i : Int) (sl : Value) (d : Nat → Value) : List Value := frm [(3, .int .i64 s), (7, .int .i64 n), (8, .int .i64 i), (0, sl), (6, sl)] d 23
def fwE (s n i : Int) (sl : Value) (d : Nat → Value) : List Value := vset ((fwF s n i sl d).set 9 (.bool (decide (i < n)))) (.tmp 9) false
def fwG (n : Nat) (sl : Value) (ops : Array Oper) (K : List Value → Xm → Prop) (vt : List Value) (m : Xm) : Prop :=
 vt.getD 0 undef = sl ∧ vt.length = 23 ∧ vseq Tryz.prog [] ops (nid 0 ops) K [2, 3] ((vt.set 20 sl).set 21 (.int .i64 (n : Nat))) m
def fwO (n : Nat) (L : Nat → Int × ByteArray) (sl : Value) : Ov := fun id => match id with
 | 2 => some fun _ _ K => rLen 0 6 7 8 23 n sl (forget fwK 23 1 K)
 | 4 => some fun _ _ => eRec 6 8 10 11 5 1 23 n L sl
 | 8 => some (cutBy Tryz.prog [] (fun _ => []) 8 fwK 23 1)
 | 9 => some fun ops _ => fwG n sl ops
 | _ => none
def fwB (P : Program) : Code := cpart [true, true, false, true] (bodyOf P 7)
def fwL (P : Program) : Code := cpart [false, false] (fwB P)
def fwZ (P : Program) : Code := cpart [true, true, true] (bodyOf P 7)
section
variable (nn : Nat) (L : Nat → Int × ByteArray) (sl : Value)
abbrev fwS (k : Nat) (c : Code) : VQ → List Value → Xm → Prop := swpO Tryz.prog [] (fun _ => []) k (fwO nn L sl) c
set_option maxRecDepth 100000 in
theorem fw_round (k : Nat) (s n i : Int) (d : Nat → Value) (Post : Value → Prop) (Q : VQ) :
    fwS nn L sl k (fwL Tryz.prog) (retOf Tryz.prog (fnOf Tryz.prog 7) Post Q) (fwF s n i sl d) [[]] =
      vif (decide (i < n)) ((0 ≤ i ∧ i.toNat < nn) ∧ sl = sl ∧ 1 = 1 ∧ 23 = 23 ∧ vif (decide (IntKind.i64.wrap (s + ((L i.toNat).2.size : Nat)) > 3000)) (Post (.bool false)) (23 = 23 ∧ (ptrOk 1 sl && (ptrOk 1 sl && true)) = true ∧ ∀ d, Q .normal (fwF (IntKind.i64.wrap (s + ((L i.toNat).2.size : Nat))) n (IntKind.i64.wrap (i + 1)) sl d) [[]]))
      (Q (.exit 0) (fwE s n i sl d) [[]]) := by kernel_rfl
set_option maxRecDepth 100000 in
theorem fw_end (k : Nat) (s n i : Int) (d : Nat → Value) (Post : Value → Prop) :
    fwS nn L sl k (fwZ Tryz.prog) (retQ Tryz.prog (fnOf Tryz.prog 7) (fun v _ => Post v)) (fwE s n i sl d) [[]] = (sl = sl ∧ 23 = 23 ∧ Post (.bool (decide (((nn : Nat) : Int) ≤ 30)))) := by kernel_rfl
def fwQ (k : Nat) (Q : VQ) : VQ := fun e vt m => match e with
 | .normal => fwS nn L sl k (fwZ Tryz.prog) Q vt m
 | e => Q e vt m
set_option maxRecDepth 100000 in
theorem fw_start (k : Nat) (Q : VQ) :
    fwS nn L sl k (bodyOf Tryz.prog 7) Q ([sl] ++ List.replicate ((fnOf Tryz.prog 7).ntmps - 1) undef) [[]] =
      (sl = sl ∧ 23 = 23 ∧ 23 = 23 ∧ (ptrOk 1 sl && (ptrOk 1 sl && true)) = true ∧ ∀ d, fwS nn L sl k (fwB Tryz.prog) (fwQ nn L sl k Q) (fwF 0 nn 0 sl d) [[]]) := by kernel_rfl
end
end Go.Proofs.YtbophanlmkbfeaaGreatDoor
namespace Go.Proofs.YtbophanlmkbfeaaGreatDoor
open Go.RowKit
theorem fwG_sound {w0 : World} {ds : List Deferred} {bl0 : Bl} {K : List Value → Xm → Prop} {Q : Exit → Act → World → Prop} {bl : Bl} {vt : List Value} {m : Xm} {a : Act} {w : World} {B : Nat} {ao : Option Addr} {n cap : Nat} {L : Nat → Int × ByteArray} {sl : Value} {ops : Array Oper} {id : Nat} {o0 o1 : Oper} {tS tE : TypeId} (hb0 : bl0[0]? = some (some B)) (hr : Recs w0 B ao n cap L sl) (hn : sl ≠ .nilIface) (hu : Tryz.prog.underlying tS = some (.slice tE)) (hnew : ops.all (fun o => !isNew o) = true) (hsz : List.range ops.size = [0, 1, 2, 3])
    (g0 : ops[0]? = some o0) (g1 : ops[1]? = some o1) (h0 : o0.dst = some 20 ∧ o0.op = .move (.tmp 0) ∧ o0.guard = none) (h1 : o1.dst = some 21 ∧ o1.op = .call { callee := .builtin .len, args := #[.tmp 20], argTypes := #[tS] } ∧ o1.guard = none)
    (h : fwG n sl ops K vt m) (r : Rl [] w0 ds bl0 bl vt m a w) (hK : ∀ bl vt m a w, K vt m → Rl [] w0 ds bl0 bl vt m a w → Q .normal a w) : (Code.region id ops false).wp Tryz.prog Q a w := by
 have hlen := r.F.len
 obtain ⟨hp, hlt, hk⟩ := h
 rw [hlt] at hlen
 have E0 := slot_sl hb0 hr hn hp r
 have hrv := hr.rv bl (r.le 0 B hb0)
 have r0 := run_under hu w
 have F := r.F
 have D := r.defers
 refine wp_region ?_
 rw [hsz]
 refine ops_valS (v := sl) (v' := (.slice ao n cap)) (w' := w) g0 h0.1 (unguarded h0.2.2) (by simp [execOp, h0.2.1, E0]) F D hlen (by decide) (hrv) fun a F D hlen E20 X => ?_
 refine ops_valS (v := .int .i64 (n : Nat)) (v' := (.int .i64 (n : Nat))) (w' := w) g1 h1.1 (unguarded h1.2.2) (by simp [execOp, h1.2.1, resolve, invoke, builtin, E20, Builtin.len_, r0, goInt]) F D hlen (by decide) (rfl) fun a F D hlen E21 X => ?_
 exact seq_rest hnew (by decide) hk ⟨F, r.R, r.le, r.len, D⟩ hK
set_option maxRecDepth 100000 in
theorem fw_ov {B : Nat} {ao : Option Addr} {nn cap : Nat} {L : Nat → Int × ByteArray} {sl : Value} {w : World} (hr : Recs w B ao nn cap L sl) (hn : sl ≠ .nilIface) : OvOk Tryz.prog (fwO nn L sl) [] w [] [some B] (bodyOf Tryz.prog 7) := by
 refine ovOk_by (ns := [(2, #[(opOf Tryz.prog 7 2 0), (opOf Tryz.prog 7 2 1), (opOf Tryz.prog 7 2 2)], false), (4, #[(opOf Tryz.prog 7 4 0), (opOf Tryz.prog 7 4 1), (opOf Tryz.prog 7 4 2), (opOf Tryz.prog 7 4 3)], false), (8, opsOf Tryz.prog 7 8, false), (9, opsOf Tryz.prog 7 9, false)]) (by kernel_rfl) ?_
 intro r hr'
 rcases List.mem_cons.1 hr' with rfl | hr'
 ·intro R hR K Q bl vt m a w1 h r hK
  cases hR
  refine rLen_sound (K := forget fwK 23 1 K) (tS := 22) (tE := 44) (by decide) (by decide) (by decide) rfl hr hn (by kernel_rfl) rfl ⟨by kernel_rfl, by kernel_rfl, by kernel_rfl⟩ ⟨by kernel_rfl, by kernel_rfl, by kernel_rfl⟩ ⟨by kernel_rfl, by kernel_rfl, by kernel_rfl⟩ h r (fun bl vt m a w hk hrl => ?_)
  obtain ⟨bl', vt', m', k1, k2⟩ := hrl.cut (show 1 ≤ 1 by decide) hk
  exact hK bl' vt' m' a w k1 k2
 rcases List.mem_cons.1 hr' with rfl | hr'
 ·intro R hR K Q bl vt m a w1 h r hK
  cases hR
  exact eRec_sound (by decide) (by decide) (by decide) (by decide) (B := B) (tS := 22) (tR := 44) (z := .agg #[.int .i64 0, .string ⟨#[]⟩]) rfl hr (by kernel_rfl) (by kernel_rfl) (by kernel_rfl) (by kernel_rfl) rfl rfl ⟨by kernel_rfl, by kernel_rfl, by kernel_rfl⟩ ⟨by kernel_rfl, by kernel_rfl, by kernel_rfl⟩ ⟨by kernel_rfl, by kernel_rfl, by kernel_rfl⟩ ⟨by kernel_rfl, by kernel_rfl, by kernel_rfl⟩ h r hK
 rcases List.mem_cons.1 hr' with rfl | hr'
 ·intro R hR K Q bl vt m a w1 h r hK
  cases hR
  exact cutBy_sound xmixA (show 1 ≤ 1 by decide) h r hK
 rcases List.mem_cons.1 hr' with rfl | hr'
 ·intro R hR K Q bl vt m a w1 h r hK
  cases hR
  exact fwG_sound (o0 := opOf Tryz.prog 7 9 0) (o1 := opOf Tryz.prog 7 9 1) (tS := 22) (tE := 44) rfl hr hn (by kernel_rfl) (by kernel_rfl) (by kernel_rfl) (by kernel_rfl) (by kernel_rfl) ⟨by kernel_rfl, by kernel_rfl, by kernel_rfl⟩ ⟨by kernel_rfl, by kernel_rfl, by kernel_rfl⟩ h r hK
 ·cases hr'
theorem fw_loop {P : Program} {fn : Func} {nn : Nat} {L : Nat → Int × ByteArray} {sl : Value} {Post : Value → Prop} {G : VQ → List Value → Xm → Prop} (hG : ∀ (s n i : Int) (d : Nat → Value) (Q : VQ), G (retOf P fn Post Q) (fwF s n i sl d) [[]] =
      vif (decide (i < n)) ((0 ≤ i ∧ i.toNat < nn) ∧ sl = sl ∧ 1 = 1 ∧ 23 = 23 ∧ vif (decide (IntKind.i64.wrap (s + ((L i.toNat).2.size : Nat)) > 3000)) (Post (.bool false)) (23 = 23 ∧ (ptrOk 1 sl && (ptrOk 1 sl && true)) = true ∧ ∀ d, Q .normal (fwF (IntKind.i64.wrap (s + ((L i.toNat).2.size : Nat))) n (IntKind.i64.wrap (i + 1)) sl d) [[]]))
      (Q (.exit 0) (fwE s n i sl d) [[]])) (hn : nn ≤ 1000000000000000) (hz : ∀ i, i < nn → (L i).2.size ≤ 1000000000000000) (hp : ptrOk 1 sl = true) (hf : Post (.bool false)) (Q : VQ)
    (hQ : ∀ s i d, s + 0 ≤ 3000 → remS L 0 nn = s → Q (.exit 0) (fwE s nn i sl d) [[]]) (k : Nat) : ∀ (i : Nat), i + k = nn → ∀ (s : Nat) (d : Nat → Value), s ≤ 3000 → remS L 0 nn = s + remS L i k → loopN (k + 1) G (retOf P fn Post Q) (fwF s nn i sl d) [[]] := by
 induction k with
 | zero =>
  intro i e s d hs hr
  rw [loop_ret, hG, decide_eq_false (by omega)]
  exact hQ s i d (by omega) hr
 | succ k ih =>
  intro i e s d hs hr
  have hr : remS L 0 nn = s + ((L i).2.size + remS L (i + 1) k) := hr
  have hzi := hz i (by omega)
  rw [loop_ret, hG, decide_eq_true (by omega), Int.toNat_natCast]
  have hw : IntKind.i64.wrap ((i : Int) + 1) = ((i + 1 : Nat) : Int) := by
   rw [IntKind.wrap_i64]
   omega
  have hv : IntKind.i64.wrap ((s : Int) + ((L i).2.size : Nat)) = ((s + (L i).2.size : Nat) : Int) := by
   rw [IntKind.wrap_i64]
   omega
  rw [hw, hv]
  refine ⟨⟨by omega, by omega⟩, rfl, rfl, rfl, ?_⟩
  by_cases hg : ((s + (L i).2.size : Nat) : Int) > 3000
  ·rw [decide_eq_true hg]
   exact hf
  ·rw [decide_eq_false hg]
   refine ⟨rfl, by rw [hp]; rfl, fun d => ?_⟩
   exact ih (i + 1) (by omega) (s + (L i).2.size) d (by omega) (by omega)
def qBl0 (id : Nat) (Q : VQ) : VQ := fun e vt' m' => match e with
 | .exit id' => if id' = id then Q .normal vt' m' else Q (.exit id') vt' m'
 | e => Q e vt' m'
theorem recs_rw {B : Nat} {ao : Option Addr} {nn cap : Nat} {L : Nat → Int × ByteArray} {sl : Value} {w : World} (hw : GW w) (hr : Recs w B ao nn cap L sl) : RW [] w [some B] [[]] w := by
 refine ⟨fun i C hi => ?_, fun i j C hi hj => ?_, fun i C hi => ?_, rfl, rfl, rfl, Nat.le_refl _, fun _ _ _ => rfl, hw, fun b hb => by cases hb⟩
 ·match i, hi with
  | 0, hi => cases hi; exact ⟨[], rfl, fun i h => absurd h (Nat.not_lt_zero i), fun i h => absurd h (Nat.not_lt_zero i), hr.lies⟩
 ·match i, j, hi, hj with
  | 0, 0, _, _ => rfl
 ·match i, hi with
  | 0, _ => exact .inr (.inr rfl)
set_option maxRecDepth 100000 in
theorem few_at {B : Nat} {ao : Option Addr} {nn cap : Nat} {L : Nat → Int × ByteArray} {sl : Value} (w : World) (hw : GW w) (hr : Recs w B ao nn cap L sl) (hs : sl ≠ .nilIface) (hn : nn ≤ 1000000000000000) (hz : ∀ i, i < nn → (L i).2.size ≤ 1000000000000000) :
    Calls Tryz.prog 7 #[.slice ao nn cap] w fun e w' => (∃ b, e = .returned (.bool b) ∧ (b = true → nn ≤ 30 ∧ remS L 0 nn ≤ 3000)) ∧ Below w.heap.size w w' := by
 have key : ∃ Post : Value → Prop, Post = fun v => ∃ b, v = .bool b ∧ (b = true → nn ≤ 30 ∧ remS L 0 nn ≤ 3000) := ⟨_, rfl⟩
 obtain ⟨Post, hPost⟩ := key
 have hf : Post (.bool false) := by rw [hPost]; exact ⟨false, rfl, fun h => by cases h⟩
 refine Calls.mono (calls_sxO (tbl := []) (dirty := fun _ => []) (n := nn + 1) (ov := fwO nn L sl) xmixA (f := 7) (fn := fnOf Tryz.prog 7) (c := bodyOf Tryz.prog 7) (by kernel_rfl) (by kernel_rfl) (vargs := [sl]) (args := #[.slice ao nn cap]) (recs_rw hw hr) rfl rfl (fun i => ?_) (Post := fun v _ => Post v) (fw_ov hr hs) ?_) ?_
 ·match i with
  | 0 => exact hr.rv [some B] rfl
  | _ + 1 => rfl
 ·refine Eq.mpr (fw_start nn L sl (nn + 1) _) ⟨rfl, rfl, rfl, by rw [hr.ok]; rfl, fun d => ?_⟩
  have e : retOf Tryz.prog (fnOf Tryz.prog 7) Post (qBl0 0 (fwQ nn L sl (nn + 1) (retQ Tryz.prog (fnOf Tryz.prog 7) (fun v _ => Post v)))) = qBl0 0 (fwQ nn L sl (nn + 1) (retQ Tryz.prog (fnOf Tryz.prog 7) (fun v _ => Post v))) := by
   funext e vt m
   cases e <;> rfl
  have hl := fw_loop (P := Tryz.prog) (fn := fnOf Tryz.prog 7) (nn := nn) (L := L) (sl := sl) (Post := Post) (fun s n i d Q => fw_round nn L sl (nn + 1) s n i d Post Q) hn hz hr.ok hf (qBl0 0 (fwQ nn L sl (nn + 1) (retQ Tryz.prog (fnOf Tryz.prog 7) (fun v _ => Post v)))) (fun s i d hs hrm => ?_) nn 0 (by omega) 0 d (by omega) (by omega)
  ·rw [e] at hl
   exact hl
  ·refine Eq.mpr (fw_end nn L sl (nn + 1) s nn i d Post) ⟨rfl, rfl, ?_⟩
   rw [hPost]
   exact ⟨_, rfl, fun h => ⟨by have := of_decide_eq_true h; omega, by omega⟩⟩
 ·rintro e w' ⟨v, bl', m2, rfl, hv, R', _⟩
  rw [hPost] at hv
  obtain ⟨b, rfl, hb⟩ := hv
  exact ⟨⟨b, rfl, hb⟩, R'.os, R'.tape, R'.output, R'.size, fun i hi => R'.block i hi (by simp)⟩
end Go.Proofs.YtbophanlmkbfeaaGreatDoor
namespace Go.Proofs.YtbophanlmkbfeaaGreatDoor
open Go.RowKit
theorem unit_sq (u a n : Int) : n * n * (u * u) = 1208925819614629174706176 * (a * a) + 1099511627776 * (a * (2 * (u * n - a * 1099511627776))) + (u * n - a * 1099511627776) * (u * n - a * 1099511627776) := by grind
theorem unit_sq_bd (u a n : Int) (U : Uof u a n) (ha : -n ≤ a ∧ a ≤ n) : 1208925819614629174706176 * (a * a) - 1099511627776 * (n * n) ≤ n * n * (u * u) ∧ 4 * (n * n * (u * u)) ≤ 4 * (1208925819614629174706176 * (a * a) + 1099511627776 * (n * n)) + n * n := by
 rw [unit_sq]
 have h := U.up
 have k := U.dn
 have e : -n ≤ 2 * (u * n - a * 1099511627776) ∧ 2 * (u * n - a * 1099511627776) ≤ n := by omega
 have p := absmul ha e
 have q := absmul e e
 have s := sq_nonneg (u * n - a * 1099511627776)
 have r : 2 * (u * n - a * 1099511627776) * (2 * (u * n - a * 1099511627776)) = 4 * ((u * n - a * 1099511627776) * (u * n - a * 1099511627776)) := by grind
 rw [r] at q
 generalize a * (2 * (u * n - a * 1099511627776)) = P at *
 generalize (u * n - a * 1099511627776) * (u * n - a * 1099511627776) = E at *
 omega
end Go.Proofs.YtbophanlmkbfeaaGreatDoor
namespace Go.Proofs.YtbophanlmkbfeaaGreatDoor
open Go.RowKit
theorem unit_sum4 (a b c d N n x y z t : Int) (hN : 0 ≤ N) (hn : 549755813888 ≤ n) (h1 : N * N ≤ a * a + b * b + c * c) (h2 : a * a + b * b + c * c < (N + 1) * (N + 1)) (h3 : n * n ≤ N * N + d * d + 0 * 0) (h4 : N * N + d * d + 0 * 0 < (n + 1) * (n + 1))
    (X : Uof x a n) (Y : Uof y b n) (Z : Uof z c n) (T : Uof t d n) : Ab (x * x + y * y + z * z + t * t - 1208925819614629174706176) 14293651161088 := by
 have sa := sq_nonneg a
 have sb := sq_nonneg b
 have sc := sq_nonneg c
 have sd := sq_nonneg d
 have sN := sq_nonneg N
 have kN := abs_le_of_sq (a := N) (by omega : 0 ≤ n) (by omega)
 have ka := abs_le_of_sq (a := a) hN (by omega)
 have kb := abs_le_of_sq (a := b) hN (by omega)
 have kc := abs_le_of_sq (a := c) hN (by omega)
 have kd := abs_le_of_sq (a := d) (by omega : 0 ≤ n) (by omega)
 have ba := unit_sq_bd x a n X (by omega)
 have bb := unit_sq_bd y b n Y (by omega)
 have bc := unit_sq_bd z c n Z (by omega)
 have bd := unit_sq_bd t d n T kd
 have e : n * n * (x * x + y * y + z * z + t * t) = n * n * (x * x) + n * n * (y * y) + n * n * (z * z) + n * n * (t * t) := by grind
 have n2 : (n + 1) * (n + 1) = n * n + 2 * n + 1 := by grind
 have m2 : (N + 1) * (N + 1) = N * N + 2 * N + 1 := by grind
 rw [n2] at h4
 rw [m2] at h2
 have nn : 549755813888 * n ≤ n * n := Int.mul_le_mul_of_nonneg_right hn (by omega)
 generalize n * n * (x * x) = x' at *
 generalize n * n * (y * y) = y' at *
 generalize n * n * (z * z) = z' at *
 generalize n * n * (t * t) = t' at *
 generalize x * x + y * y + z * z + t * t = W at *
 generalize a * a = aa at *
 generalize b * b = bb' at *
 generalize c * c = cc at *
 generalize d * d = dd at *
 generalize N * N = NN at *
 constructor
 ·by_cases k : 1208925819614629174706176 - 14293651161088 ≤ W
  ·omega
  ·have := Int.mul_le_mul_of_nonneg_left (by omega : W ≤ 1208925819614629174706176 - 14293651161088 - 1) (by omega : 0 ≤ n * n)
   generalize n * n = q at *
   omega
 ·by_cases k : W ≤ 1208925819614629174706176 + 14293651161088
  ·omega
  ·have h3 := Int.mul_le_mul_of_nonneg_left (by omega : 1208925819614629174706176 + 14293651161088 + 1 ≤ W) (by omega : 0 ≤ n * n)
   generalize n * n = q at *
   omega
structure U4 (u0 u1 u2 u3 : Int) : Prop where
 a0 : Ab u0 1099511627776
 a1 : Ab u1 1099511627776
 a2 : Ab u2 1099511627776
 a3 : Ab u3 1099511627776
 up : 0 ≤ u3
 len : Ab (u0 * u0 + u1 * u1 + u2 * u2 + u3 * u3 - 1208925819614629174706176) 14293651161088
theorem unit_math (q : V4) : (qUnitS false q = ((0, 0, 0, 0), true)) ∨ ∃ u0 u1 u2 u3, qUnitS false q = ((u0, u1, u2, u3), false) ∧ U4 u0 u1 u2 u3 := by
 rcases qUnit_cases false q with ⟨_, e⟩ | ⟨N, n, d0, d1, d2, d3, _, h1, h2, c, _, _, _, _, U0, U1, U2, U3, e⟩
 ·exact Or.inl e
 ·refine Or.inr ?_
  have g1 := normS_good h1
  have g2 := normS_good h2
  have s := unit_sum4 q.1 q.2.1 q.2.2.1 q.2.2.2 N n d0 d1 d2 d3 g1.2.2.2.2.1 c g1.2.2.2.2.2.2.1 g1.2.2.2.2.2.2.2 g2.2.2.2.2.2.2.1 g2.2.2.2.2.2.2.2 U0 U1 U2 U3
  by_cases k : d3 < 0
  ·rw [if_pos k] at e
   refine ⟨-d0, -d1, -d2, -d3, e, ⟨⟨by have := U0.hi; omega, by have := U0.lo; omega⟩, ⟨by have := U1.hi; omega, by have := U1.lo; omega⟩, ⟨by have := U2.hi; omega, by have := U2.lo; omega⟩, ⟨by have := U3.hi; omega, by have := U3.lo; omega⟩, by omega, ?_⟩⟩
   rw [Int.neg_mul_neg, Int.neg_mul_neg, Int.neg_mul_neg, Int.neg_mul_neg]
   exact s
  ·rw [if_neg k] at e
   exact ⟨d0, d1, d2, d3, e, ⟨⟨U0.lo, U0.hi⟩, ⟨U1.lo, U1.hi⟩, ⟨U2.lo, U2.hi⟩, ⟨U3.lo, U3.hi⟩, by omega, s⟩⟩
end Go.Proofs.YtbophanlmkbfeaaGreatDoor
namespace Go.Proofs.YtbophanlmkbfeaaGreatDoor
open Go.RowKit
theorem norm_near {t0 t1 t2 K : Int} (h0 : Ab t0 K) (h1 : Ab t1 K) (h2 : Ab t2 K) (hK : K ≤ 1152921504606846976) :
    ∃ N, vNormS false (t0, t1, t2) = (N, false) ∧ 0 ≤ N ∧ N * N ≤ t0 * t0 + t1 * t1 + t2 * t2 ∧ t0 * t0 + t1 * t1 + t2 * t2 < (N + 1) * (N + 1) := by
 have q0 := (h0.le hK).mul (h0.le hK)
 have q1 := (h1.le hK).mul (h1.le hK)
 have q2 := (h2.le hK).mul (h2.le hK)
 have := q0.hi; have := q1.hi; have := q2.hi
 have s0 := sq_nonneg t0
 have s1 := sq_nonneg t1
 have s2 := sq_nonneg t2
 have s := isq_spec (t0 * t0 + t1 * t1 + t2 * t2) (by omega) (by omega)
 refine ⟨isq (t0 * t0 + t1 * t1 + t2 * t2), normS_make (h0.numB (by omega)) (h1.numB (by omega)) (h2.numB (by omega)) s.1 ?_ s.2.1 s.2.2, s.1, s.2.1, s.2.2⟩
 by_cases k : isq (t0 * t0 + t1 * t1 + t2 * t2) ≤ 4611686018427387904
 ·exact k
 ·have := sq_mono (by omega : (0 : Int) ≤ 4611686018427387905) (by omega : 4611686018427387905 ≤ isq (t0 * t0 + t1 * t1 + t2 * t2))
  omega
end Go.Proofs.YtbophanlmkbfeaaGreatDoor
namespace Go.Proofs.YtbophanlmkbfeaaGreatDoor
open Go.RowKit
def t4F (u0 u1 u2 u3 : Int) : Nat → Int
 | 0 => u0
 | 1 => u1
 | 2 => u2
 | _ => u3
theorem unit_nq {u0 u1 u2 u3 : Int} (U : U4 u0 u1 u2 u3) : nq (t4F u0 u1 u2 u3) := by
 obtain ⟨N, e1, n0, n1, n2⟩ := norm_near U.a0 U.a1 U.a2 (by decide)
 have s0 := sq_nonneg u0
 have s1 := sq_nonneg u1
 have s2 := sq_nonneg u2
 have s3 := sq_nonneg u3
 have hi := U.len.hi
 have lo := U.len.lo
 have hN : N ≤ 1099511627783 := by
  by_cases c : N ≤ 1099511627783
  ·exact c
  ·have := sq_mono (by omega : (0 : Int) ≤ 1099511627784) (by omega : 1099511627784 ≤ N)
   omega
 obtain ⟨n, e2, m0, m1, m2⟩ := norm_near (t0 := N) (t1 := u3) (t2 := 0) (K := 2199023255552) ⟨by omega, by omega⟩ ⟨by have := U.a3.lo; omega, by have := U.a3.hi; omega⟩ ⟨by omega, by omega⟩ (by decide)
 have e1 : normS false u0 u1 u2 = (N, false) := e1
 have e2 : normS false N u3 0 = (n, false) := e2
 have hn : n ≤ 1099511627783 := by
  by_cases c : n ≤ 1099511627783
  ·exact c
  ·have := sq_mono (by omega : (0 : Int) ≤ 1099511627784) (by omega : 1099511627784 ≤ n)
   omega
 have hn2 : 1099511627766 ≤ n := by
  by_cases c : 1099511627766 ≤ n
  ·exact c
  ·have := sq_mono (by omega : (0 : Int) ≤ n + 1) (by omega : n + 1 ≤ 1099511627766)
   have hx : (N + 1) * (N + 1) = N * N + 2 * N + 1 := by grind
   omega
 unfold nq
 refine ⟨?_, ?_, ?_, ?_, fun i _ => ?_⟩
 ·show (normS false (normS false u0 u1 u2).1 u3 0).2 = false
  rw [e1, e2]
 ·show (normS false u0 u1 u2).2 = false
  rw [e1]
 ·show (normS false (normS false u0 u1 u2).1 u3 0).1 - 1099511627776 ≤ 16
  rw [e1, e2]
  show n - 1099511627776 ≤ 16
  omega
 ·show -16 ≤ (normS false (normS false u0 u1 u2).1 u3 0).1 - 1099511627776
  rw [e1, e2]
  show -16 ≤ n - 1099511627776
  omega
 ·have a0 := U.a0
  have a1 := U.a1
  have a2 := U.a2
  have a3 := U.a3
  match i with
  | 0 => exact ⟨by have := a0.lo; show _ ≤ u0; omega, by have := a0.hi; show u0 ≤ _; omega⟩
  | 1 => exact ⟨by have := a1.lo; show _ ≤ u1; omega, by have := a1.hi; show u1 ≤ _; omega⟩
  | 2 => exact ⟨by have := a2.lo; show _ ≤ u2; omega, by have := a2.hi; show u2 ≤ _; omega⟩
  | _ + 3 => exact ⟨by have := a3.lo; show _ ≤ u3; omega, by have := a3.hi; show u3 ≤ _; omega⟩
set_option maxHeartbeats 400000 in
theorem uminus_any (a : Int) (w : World) :
    Calls Tryz.prog 218 #[.int .i64 a] w fun e w' => e = .returned (.int .i64 (minusS a)) ∧ Below w.heap.size w w' := by
 by_cases h1 : a < -4611686018427387904
 ·have HS : Hid _ := minusS_lo h1
  go_enter Tryz.func218, Tryz.ntmps218
  go_wp2
  go_ret
  rw [HS.out]
  exact ⟨rfl, Below.refl _ _⟩
 ·by_cases h2 : 4611686018427387904 < a
  ·have HS : Hid _ := minusS_hi h2
   go_enter Tryz.func218, Tryz.ntmps218
   go_wp2
   go_ret
   rw [HS.out]
   exact ⟨rfl, Below.refl _ _⟩
  ·have HS : Hid _ := minusS_in (by omega) (by omega : a ≤ 4611686018427387904)
   go_enter Tryz.func218, Tryz.ntmps218
   go_wp2
   go_ret
   rw [HS.out]
   exact ⟨rfl, Below.refl _ _⟩
def uMin : Ct Tryz.prog := pureCt Tryz.prog 218 (lone' cI) (fun x => minusS x) cI (go_of Tryz.func218 (by kernel_rfl) (by kernel_rfl)) (fun x w _ => uminus_any x w)
theorem uprt_fx : PureOk Tryz.prog 181 (lone' cV4) (fun x => uprightS x) cV4 := pure_sx (tbl := [uMin]) (dirty := fun _ => []) (n := 8) xmixA Tryz.func181 rfl (fun x Post => by
    refine Eq.trans (b := ?m) ?x (Eq.symm ?y)
    case y => unfold uprightS; simp only [← vif_le (K := PJ cV4 Post)]; exact rfl
    case x => kernel_rfl)
def uUpr : Ct Tryz.prog := pureCt Tryz.prog 181 (lone' cV4) (fun x => uprightS x) cV4 (go_of Tryz.func181 (by kernel_rfl) (by kernel_rfl)) uprt_fx
theorem uprd_fx : PureOk Tryz.prog 180 (lone' cV4) (fun x => partedS x) (two' cV3 cI) := pure_sx (tbl := []) (dirty := fun _ => []) (n := 8) xmixA Tryz.func180 rfl (fun x Post => by kernel_rfl)
def uPrt : Ct Tryz.prog := pureCt Tryz.prog 180 (lone' cV4) (fun x => partedS x) (two' cV3 cI) (go_of Tryz.func180 (by kernel_rfl) (by kernel_rfl)) uprd_fx
def uNrm : Ct Tryz.prog := flowCt Tryz.prog 104 (then' cI (then' cI (lone' cI))) (fun bad x => normS bad x.1 x.2.1 x.2.2) cI (go_of Tryz.func104 (by kernel_rfl) (by kernel_rfl)) (fun b bad x w _ _ hw => Norm_any b bad x.1 x.2.1 x.2.2 w hw)
def uDiv : Ct Tryz.prog := flowCt Tryz.prog 159 (then' cI (lone' cI)) (fun bad x => divS bad x.1 x.2) cI (go_of Tryz.func159 (by kernel_rfl) (by kernel_rfl)) (fun b bad x w _ _ hw => Div_any b bad x.1 x.2 w hw)
def uFai : Ct Tryz.prog := flowCt Tryz.prog 90 none' (fun _ _ => ((), true)) cU (go_of Tryz.func90 (by kernel_rfl) (by kernel_rfl)) (fun b bad _ w _ _ hw => Fail_any b bad w hw)
theorem uvn_fx : FlowOk Tryz.prog 53 (lone' cV3) (fun bad x => vNormS bad x) cI := flow_sx (tbl := [uNrm]) (dirty := fun _ => []) (n := 8) xmixA Tryz.func53 rfl (fun bad x Post => by kernel_rfl)
def uVno : Ct Tryz.prog := flowCt Tryz.prog 53 (lone' cV3) (fun bad x => vNormS bad x) cI (go_of Tryz.func53 (by kernel_rfl) (by kernel_rfl)) uvn_fx
theorem uUnit_fx : FlowOk Tryz.prog 111 (lone' cV4) (fun bad x => qUnitS bad x) cV4 := flow_sx (tbl := [uPrt, uVno, uNrm, uFai, uDiv, uUpr]) (dirty := fun _ => []) (n := 8) xmixA Tryz.func111 rfl (fun bad x Post => by
    refine Eq.trans (b := ?m) ?x (Eq.symm ?y)
    case y => unfold qUnitS; simp only [← vif_lt (K := PK cV4 Post)]; exact rfl
    case x => kernel_rfl)
def quS : Value := .agg ⟨[sym 0, sym 1, sym 2, sym 3]⟩
theorem v4_of (v : Value) (h : G2 (fun _ => 0) (rI 4) v) : ∃ q : V4, cV4.enc q = v := by
 obtain ⟨y, hy⟩ := cT_of 4 v h
 exact ⟨(y.1, y.2.1, y.2.2.1, y.2.2.2.1), hy⟩
theorem uUnit_op : ∃ g, FOp Tryz.prog nq 111 [rI 4] quS unkB g := by
 have key : ∀ (x : Bool × List Value), ∃ y : Value × Bool, All2 (G2 (fun _ => 0)) [rI 4] x.2 → (∀ b w, GW w → 1 < b → Fl b x.1 w → Calls Tryz.prog 111 (ptr b :: x.2).toArray w fun e w' => e = .returned y.1 ∧ Fl b y.2 w' ∧ Kept b w w') ∧ (x.1 = true → y.2 = true) ∧
  ∃ τ', G0 τ' unkB (.bool y.2) ∧ G2 τ' quS y.1 ∧ (y.2 = true ∨ nq τ') := by
  rintro ⟨bad, rest⟩
  by_cases hx : All2 (G2 (fun _ => 0)) [rI 4] rest
  ·match rest, hx with
   | [v], ⟨hv, _⟩ =>
   obtain ⟨q, rfl⟩ := v4_of v hv
   refine ⟨(cV4.enc (qUnitS bad q).1, (qUnitS bad q).2), fun _ => ⟨fun b w hg h1 hw => uUnit_fx b bad q w hg h1 hw, ?_, t4F (qUnitS bad q).1.1 (qUnitS bad q).1.2.1 (qUnitS bad q).1.2.2.1 (qUnitS bad q).1.2.2.2, ⟨_, rfl⟩, ⟨_, rfl, ⟨rfl, rfl, rfl, rfl, trivial⟩⟩, ?_⟩⟩
   ·rintro rfl
    dsimp only
    rw [qUnit_true]
   ·cases bad
    ·dsimp only
     rcases unit_math q with e | ⟨u0, u1, u2, u3, e, U⟩
     ·rw [e]; exact .inl rfl
     ·rw [e]; exact .inr (unit_nq U)
    ·dsimp only
     rw [qUnit_true]
     exact .inl rfl
  ·exact ⟨(undef, false), fun e => absurd e hx⟩
 exact ⟨fun bad rest => Classical.choose (key (bad, rest)), fun bad rest hr => Classical.choose_spec (key (bad, rest)) hr⟩
def tuUnit : ACt Tryz.prog nq := rowF true (go_of Tryz.func111 (by kernel_rfl) (by kernel_rfl)) uUnit_op (by decide +kernel)
end Go.Proofs.YtbophanlmkbfeaaGreatDoor
namespace Go.Proofs.YtbophanlmkbfeaaGreatDoor
open Go.RowKit
theorem tDec_enc : ∀ (n : Nat) (x : Tup n), tDec n (tEnc n x) = some x
 | 0, _ => rfl
 | n + 1, x => by
  show (match tDec n (tEnc n x.2) with
   | some y => some (x.1, y)
   | none => none) = some x
  rw [tDec_enc n x.2]
  rfl
def guS : Value := .agg ⟨sym 0 :: sym 1 :: sym 2 :: sym 3 :: List.replicate 39 uI⟩
def nqT (g : Tup 43) : Prop := nq (t4F g.1 g.2.1 g.2.2.1 g.2.2.2.1)
theorem nq_t4 {τ : Nat → Int} (h : nq τ) : nq (t4F (τ 0) (τ 1) (τ 2) (τ 3)) := by
 obtain ⟨h1, h2, h3, h4, h5⟩ := h
 refine ⟨h1, h2, h3, h4, fun i hi => ?_⟩
 match i, hi with
 | 0, _ => exact h5 0 (by decide)
 | 1, _ => exact h5 1 (by decide)
 | 2, _ => exact h5 2 (by decide)
 | 3, _ => exact h5 3 (by decide)
theorem guS_of {τ : Nat → Int} {v : Value} (h : G2 τ guS v) : ∃ x : Tup 43, (cT 43).enc x = v ∧ x.1 = τ 0 ∧ x.2.1 = τ 1 ∧ x.2.2.1 = τ 2 ∧ x.2.2.2.1 = τ 3 := by
 obtain ⟨l, rfl, gl⟩ := h
 match l, gl with
 | v0 :: v1 :: v2 :: v3 :: r, ⟨e0, e1, e2, e3, gr⟩ =>
 have e0 : v0 = .int .i64 (τ 0) := e0
 have e1 : v1 = .int .i64 (τ 1) := e1
 have e2 : v2 = .int .i64 (τ 2) := e2
 have e3 : v3 = .int .i64 (τ 3) := e3
 obtain ⟨y, rfl⟩ := tEnc_of 39 r gr
 subst e0 e1 e2 e3
 exact ⟨(τ 0, τ 1, τ 2, τ 3, y), rfl, rfl, rfl, rfl, rfl⟩
theorem int_inj {a b : Int} (h : Value.int .i64 a = .int .i64 b) : a = b := by cases h; rfl
theorem guS_nq {τ : Nat → Int} {x : Tup 43} (h : G2 τ guS ((cT 43).enc x)) (hq : nq τ) : nqT x := by
 obtain ⟨l, e, gl⟩ := h
 have e : tEnc 43 x = l := congrArg (fun v : Value => match v with
  | .agg cs => cs.toList
  | _ => []) e
 subst e
 obtain ⟨e0, e1, e2, e3, _⟩ := gl
 have e0 : x.1 = τ 0 := int_inj e0
 have e1 : x.2.1 = τ 1 := int_inj e1
 have e2 : x.2.2.1 = τ 2 := int_inj e2
 have e3 : x.2.2.2.1 = τ 3 := int_inj e3
 unfold nqT
 rw [e0, e1, e2, e3]
 exact nq_t4 hq
theorem guS_g (x : Tup 43) : G2 (t4F x.1 x.2.1 x.2.2.1 x.2.2.2.1) guS ((cT 43).enc x) := ⟨tEnc 43 x, rfl, rfl, rfl, rfl, rfl, tEnc_g 39 x.2.2.2.2⟩
def zero43 : Tup 43 := (0, 0, 0, 0, 0, 0, 0, 0, 0, 0, 0, 0, 0, 0, 0, 0, 0, 0, 0, 0, 0, 0, 0, 0, 0, 0, 0, 0, 0, 0, 0, 0, 0, 0, 0, 0, 0, 0, 0, 0, 0, 0, 0, ())
def snd43 (bad : Bool) (x : Tup 43) : Tup 43 × Bool := if bad then (zero43, true) else (x, false)
set_option maxRecDepth 100000 in
theorem snd_fx : FlowOk Tryz.prog 116 (lone' (cT 43)) snd43 (cT 43) := flow_sx (tbl := []) (dirty := fun _ => []) (n := 8) xmixA Tryz.func116 rfl (fun bad x Post => by cases bad <;> kernel_rfl)
def tsndN : ACt Tryz.prog nq where
 ct := flowCt Tryz.prog 116 (lone' (cT 43)) snd43 (cT 43) (go_of Tryz.func116 (by kernel_rfl) (by kernel_rfl)) snd_fx
 flow := true
 sa := [guS]
 sr := guS
 fb := unkB
 tout := true
 okF := fun _ k rest m bad τ hm hg => by
  match rest, hg with
  | [v], ⟨hv, _⟩ =>
  obtain ⟨x, rfl, _⟩ := guS_of hv
  have hd : (lone' (cT 43)).dec [(cT 43).enc x] = some x := tDec_enc 43 x
  have hsp : ∀ K : Value → Xm → Prop, K ((cT 43).enc (snd43 bad x).1) (m.set k [.bool (snd43 bad x).2]) → (flowCt Tryz.prog 116 (lone' (cT 43)) snd43 (cT 43) (go_of Tryz.func116 (by kernel_rfl) (by kernel_rfl)) snd_fx).sp (.pointer (some ⟨k, 0, none⟩) :: [(cT 43).enc x]) m K := by
   intro K hK
   unfold flowCt
   dsimp only
   split
   ·rename_i e
    cases e
    rw [hd, hm]
    exact hK
   ·rename_i hne
    exact absurd rfl (hne _ _)
  cases bad with
  | false => exact ⟨_, _, τ, hsp, ⟨_, rfl⟩, (fun e => by cases e), fun _ => .inr (.inr ⟨rfl, rfl⟩), hv, fun _ => rfl⟩
  | true => exact ⟨_, _, t4F 0 0 0 0, hsp, ⟨_, rfl⟩, fun _ => rfl, fun _ => .inl rfl, guS_g zero43, fun e => by cases e⟩
 okP := fun e => by cases e
theorem fturnN_op : ∃ g, FOp Tryz.prog nq 117 [rI 4, rI 6] quS unkB g := flow_ax (tbl := [tfparted, tqFromRod, tqMul, tuUnit]) (dirty := fun _ => []) (n := 8) nq_one xmixA Tryz.func117 rfl (by decide +kernel)
def tfturnN : ACt Tryz.prog nq := rowF true (go_of Tryz.func117 (by kernel_rfl) (by kernel_rfl)) fturnN_op (by decide +kernel)
theorem qfrmN_op : ∃ g, FOp Tryz.prog nq 199 [rI 9] quS unkB g := flow_ax (tbl := [tAdd, tuUnit, tqbyW, tqbyX, tqbyY, tqbyZ]) (dirty := fun _ => []) (n := 8) nq_one xmixA Tryz.func199 rfl (by decide +kernel)
def tqfrmN : ACt Tryz.prog nq := rowF true (go_of Tryz.func199 (by kernel_rfl) (by kernel_rfl)) qfrmN_op (by decide +kernel)
theorem dattN_op : ∃ g, FOp Tryz.prog nq 136 [rI 6, rI 6] quS unkB g := flow_ax (tbl := [tdApart, tFail, tdaxes, tdbetween, tqfrmN]) (dirty := fun _ => []) (n := 8) nq_one xmixA Tryz.func136 rfl (by decide +kernel)
theorem fmetN_op : ∃ g, FOp Tryz.prog nq 128 [rI 43, rI 36, rI 36, rI 6] guS unkB g := flow_ax (tbl := [taSolve, tfless, taApply, tfturnN, tfbiased, tfevened]) (dirty := fun _ => []) (n := 8) nq_one xmixA Tryz.func128 rfl (by decide +kernel)
def tfmetN : ACt Tryz.prog nq := rowF true (go_of Tryz.func128 (by kernel_rfl) (by kernel_rfl)) fmetN_op (by decide +kernel)
theorem fmovN_op : ∃ g, FOp Tryz.prog nq 56 [rI 43, rI 3, uI] guS unkB g := flow_ax (tbl := [tFail, tfPoints, tfmoved, tqUnit, tfaround, tfmean, tfbeside, tfproducts, tsndN, tfturnN, tfbiased, tfraised, tPart]) (dirty := fun _ => []) (n := 8) nq_one xmixA Tryz.func56 rfl (by decide +kernel)
end Go.Proofs.YtbophanlmkbfeaaGreatDoor
namespace Go.Proofs.YtbophanlmkbfeaaGreatDoor
open Go.RowKit
set_option maxRecDepth 100000 in
theorem meet_axF : axF Tryz.prog [tfPoints, tfviewed, tfunits, tfmean, tfbeside, tfraised, tfproducts, tfless, tfjoined, taRoot, taApply, taSolve, tfmetN] (fun _ => []) 8 (fnOf Tryz.prog 57) (bodyOf Tryz.prog 57) [guS, rI 6, rI 6] (.tuple ⟨[guS, uI, unkB]⟩) unkB = true := by decide +kernel
theorem meetN_ex : ∃ g, FlowOk Tryz.prog 57 (then' (cT 43) (then' (cT 6) (lone' (cT 6)))) g (three' (cT 43) cI cB) ∧ ∀ bad x, (g bad x).2 = false → bad = false ∧ (nqT x.1 → nqT (g bad x).1.1) := by
 have key : ∀ x : Bool × Tup 43 × Tup 6 × Tup 6, ∃ y : (Tup 43 × Int × Bool) × Bool, (∀ b w, GW w → 1 < b → Fl b x.1 w → Calls Tryz.prog 57 (ptr b :: (then' (cT 43) (then' (cT 6) (lone' (cT 6)))).enc x.2).toArray w fun e w' => e = .returned ((three' (cT 43) cI cB).enc y.1) ∧ Fl b y.2 w' ∧ Kept b w w') ∧ (y.2 = false → x.1 = false ∧ (nqT x.2.1 → nqT y.1.1)) := by
  rintro ⟨bad, x⟩
  obtain ⟨v, bad', τ', h1, h2, _, h4, h5⟩ := axF_core (NQ := fun τ => nqT x.1 → nq τ) (fun τ h _ => h) xmixA (f := 57) (fn := fnOf Tryz.prog 57) (c := bodyOf Tryz.prog 57) (by kernel_rfl) (by kernel_rfl) meet_axF bad ((then' (cT 43) (then' (cT 6) (lone' (cT 6)))).enc x) (t4F x.1.1 x.1.2.1 x.1.2.2.1 x.1.2.2.2.1) ⟨guS_g x.1, cT_g 6 x.2.1, cT_g 6 x.2.2, trivial⟩ (.inr id)
  obtain ⟨l, rfl, gl⟩ := h4
  match l, gl with
  | [a, b, c], ⟨ga, ⟨y, eb⟩, ⟨z, ec⟩, _⟩ =>
  obtain ⟨q, ez, _⟩ := guS_of ga.g2
  have ga := ga.g2
  subst ez eb ec
  refine ⟨((q, y, z), bad'), h1, fun e => ?_⟩
  dsimp only at e
  subst e
  refine ⟨?_, fun hq => ?_⟩
  ·cases bad
   ·rfl
   ·exact absurd (h2 rfl) (by decide)
  ·rcases h5 with e | e
   ·cases e
   ·exact guS_nq ga (e hq)
 exact ⟨fun bad x => Classical.choose (key (bad, x)), fun b bad x w hw hb hf => (Classical.choose_spec (key (bad, x))).1 b w hw hb hf, fun bad x h => (Classical.choose_spec (key (bad, x))).2 h⟩
theorem moveN_ex : ∃ g, FlowOk Tryz.prog 56 (then' (cT 43) (then' (cT 3) (lone' cI))) g (cT 43) ∧ ∀ bad x, (g bad x).2 = false → nqT (g bad x).1 := by
 obtain ⟨g, h, k⟩ := flowOk_of fmovN_op (then' (cT 43) (then' (cT 3) (lone' cI))) (cT 43) (fun x => ⟨cT_g 43 x.1, cT_g 3 x.2.1, ⟨x.2.2, rfl⟩, trivial⟩) (fun _ v h => by obtain ⟨y, e, _⟩ := guS_of h; exact ⟨y, e⟩)
 refine ⟨g, h, fun bad x e => ?_⟩
 obtain ⟨_, τ', g2, hq⟩ := k bad x
 rcases hq with hq | hq
 ·rw [e] at hq; cases hq
 ·exact guS_nq g2 hq
def nq4 (q : Tup 4) : Prop := nq (t4F q.1 q.2.1 q.2.2.1 q.2.2.2.1)
theorem quS_of {τ : Nat → Int} {v : Value} (h : G2 τ quS v) : ∃ x : Tup 4, (cT 4).enc x = v ∧ (nq τ → nq4 x) := by
 obtain ⟨l, rfl, gl⟩ := h
 match l, gl with
 | [v0, v1, v2, v3], ⟨e0, e1, e2, e3, _⟩ =>
 have e0 : v0 = .int .i64 (τ 0) := e0
 have e1 : v1 = .int .i64 (τ 1) := e1
 have e2 : v2 = .int .i64 (τ 2) := e2
 have e3 : v3 = .int .i64 (τ 3) := e3
 subst e0 e1 e2 e3
 exact ⟨(τ 0, τ 1, τ 2, τ 3, ()), rfl, nq_t4⟩
theorem tEnc_inj : ∀ (n : Nat) (x y : Tup n), tEnc n x = tEnc n y → x = y := fun n x y h => by
 have := tDec_enc n x
 rw [h, tDec_enc n y] at this
 exact (Option.some.inj this).symm
theorem attN_ex : ∃ g, FlowOk Tryz.prog 136 (then' (cT 6) (lone' (cT 6))) g (cT 4) ∧ ∀ bad x, (g bad x).2 = false → nq4 (g bad x).1 := by
 obtain ⟨g, h, k⟩ := flowOk_of dattN_op (then' (cT 6) (lone' (cT 6))) (cT 4) (fun x => ⟨cT_g 6 x.1, cT_g 6 x.2, trivial⟩) (fun _ v h => by obtain ⟨y, e, _⟩ := quS_of h; exact ⟨y, e⟩)
 refine ⟨g, h, fun bad x e => ?_⟩
 obtain ⟨_, τ', g2, hq⟩ := k bad x
 obtain ⟨y, ey, hy⟩ := quS_of g2
 have ey : tEnc 4 y = tEnc 4 (g bad x).1 := congrArg (fun v : Value => match v with
  | .agg cs => cs.toList
  | _ => []) ey
 rw [← tEnc_inj 4 _ _ ey]
 rcases hq with hq | hq
 ·rw [e] at hq; cases hq
 ·exact hy hq
def sprT (bad : Bool) (g : Tup 43) : Int × Bool := let r1 := addS bad g.2.2.2.2.2.2.2.1 g.2.2.2.2.2.2.2.2.2.2.2.2.2.2.1; addS r1.2 r1.1 g.2.2.2.2.2.2.2.2.2.2.2.2.2.2.2.2.2.2.2.2.2.1
def uAdd : Ct Tryz.prog := flowCt Tryz.prog 103 (then' cI (lone' cI)) (fun bad x => addS bad x.1 x.2) cI (go_of Tryz.func103 (by kernel_rfl) (by kernel_rfl)) (fun b bad x w _ _ hw => Add_any b bad x.1 x.2 w hw)
set_option maxRecDepth 100000 in
theorem spr_fx : FlowOk Tryz.prog 59 (lone' (cT 43)) sprT cI := flow_sx (tbl := [uAdd]) (dirty := fun _ => []) (n := 8) xmixA Tryz.func59 rfl (fun bad x Post => by kernel_rfl)
def startT (x : Tup 4) : Tup 43 := (x.1, x.2.1, x.2.2.1, x.2.2.2.1, 0, 0, 0, 17179869184, 0, 0, 0, 0, 0, 0, 17179869184, 0, 0, 0, 0, 0, 0, 17179869184, 0, 0, 0, 0, 0, 0, 16777216, 0, 0, 0, 0, 0, 0, 16777216, 0, 0, 0, 0, 0, 0, 16777216, ())
theorem eith_fx : PureOk Tryz.prog 185 (then' cI (then' cI (lone' cI))) (fun x => if x.1 < 3 then x.2.1 else x.2.2) cI := pure_sx (tbl := []) (dirty := fun _ => []) (n := 4) xmixA Tryz.func185 rfl (fun x Post => by
    refine Eq.trans (b := ?m) ?x (Eq.symm ?y)
    case y => simp only [← vif_lt (K := PJ cI Post)]; exact rfl
    case x => kernel_rfl)
def uEit : Ct Tryz.prog := pureCt Tryz.prog 185 (then' cI (then' cI (lone' cI))) (fun x => if x.1 < 3 then x.2.1 else x.2.2) cI (go_of Tryz.func185 (by kernel_rfl) (by kernel_rfl)) eith_fx
set_option maxRecDepth 100000 in
theorem start_fx : PureOk Tryz.prog 135 (lone' (cT 4)) startT (cT 43) := pure_sx (tbl := [uEit]) (dirty := fun _ => []) (n := 8) xmixA Tryz.func135 rfl (fun x Post => by kernel_rfl)
structure FsNq (F : Fs) : Prop where
 is : FsIs F
 move : ∀ bad x, (F.move bad x).2 = false → nqT (F.move bad x).1
 meet : ∀ bad x, (F.meet bad x).2 = false → bad = false ∧ (nqT x.1 → nqT (F.meet bad x).1.1)
 att : ∀ bad x, (F.att bad x).2 = false → nq4 (F.att bad x).1
 spread : F.spread = sprT
 start : F.start = startT
theorem fsn_ex : ∃ F, FsNq F := by
 obtain ⟨place, hplace⟩ := place_ex
 obtain ⟨dir, hdir⟩ := dir_ex
 obtain ⟨norm, hnorm⟩ := norm_ex
 obtain ⟨apart, hapart⟩ := apart_ex
 obtain ⟨shaded, hshaded⟩ := shaded_ex
 obtain ⟨move, hmove, kmove⟩ := moveN_ex
 obtain ⟨meet, hmeet, kmeet⟩ := meetN_ex
 obtain ⟨att, hatt, katt⟩ := attN_ex
 obtain ⟨bstep, hbstep⟩ := bstep_ex
 obtain ⟨sky, hsky⟩ := sky_ex
 exact ⟨⟨cRight, place, dir, sky, norm, apart, shaded, move, meet, sprT, att, startT, bstep, dipV, nextT, countsT, writeT, wrapT, readT, freshT, oreadT⟩, ⟨⟨right_ok, hplace, hdir, hsky, hnorm, hapart, hshaded, hmove, hmeet, spr_fx, hatt, start_fx, hbstep, dip_fx, next_ok, counts_ok, write_ok, wrap_ok, read_ok, fresh_ok, oread_ok⟩, rfl, rfl, rfl, rfl, rfl, rfl, rfl, rfl, rfl⟩, kmove, kmeet, katt, rfl, rfl⟩
end Go.Proofs.YtbophanlmkbfeaaGreatDoor
