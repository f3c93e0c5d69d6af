/-
A part.
A part.
A part.
A part.
-/
import Derived.Test.YtbophanlmkbfeaaGreatDoorRows
import Derived.Deep.Slices
import Derived.ChangeSlices
import Derived.ChangeSame
import Derived.Carry
import Derived.WalkKit
import Derived.ProofKit
import Derived.OpenShut
import Derived.Lib.SmallJoins
import Derived.Lib.LaidTab
import Derived.LaidMore
import Derived.MakeChecks
import Derived.Test.YtbophanlmkbfeaaGreatDoorHC34
import Derived.Test.YtbophanlmkbfeaaGreatDoorHC32
import Derived.Test.YtbophanlmkbfeaaGreatDoorHC02
import Derived.Test.YtbophanlmkbfeaaGreatDoorHC11
namespace Go.Proofs.YtbophanlmkbfeaaGreatDoor
open Go.RowKit
theorem Rl.below {w0 : World} {ds : List Deferred} {bl0 bl : Bl} {vt : List Value} {m : Xm} {a : Act} {w : World} (r : Rl [] w0 ds bl0 bl vt m a w) : Below w0.heap.size w0 w := ⟨r.R.os, r.R.tape, r.R.output, r.R.size, fun i hi => r.R.block i hi (by simp)⟩
theorem hoG_sound {w0 : World} {ds : List Deferred} {bl0 : Bl} {K : List Value → Xm → Prop} {Q : Exit → Act → World → Prop} {bl : Bl} {vt : List Value} {m : Xm} {a : Act} {w : World} {B : Nat} {ao : Option Addr} {n cap : Nat} {L : Nat → Int × ByteArray} {sl : Value} {ops : Array Oper} {id : Nat} {o0 o1 : Oper} {tS : TypeId} {fn : Nat} (hfn : fn = 7) (hb0 : bl0[0]? = some (some B)) (hr : Recs w0 B ao n cap L sl) (hs : sl ≠ .nilIface) (hn : n ≤ 1000000000000000) (hz : ∀ i, i < n → (L i).2.size ≤ 1000000000000000) (hnew : ops.all (fun o => !isNew o) = true) (hsz : List.range ops.size = [0, 1, 2, 3, 4, 5, 6, 7, 8, 9, 10])
    (g0 : ops[0]? = some o0) (g1 : ops[1]? = some o1) (h0 : o0.dst = some 17 ∧ o0.op = .move (.tmp 1) ∧ o0.guard = none) (h1 : o1.dst = some 18 ∧ o1.op = .call { callee := .value (.func fn), args := #[.tmp 17], argTypes := #[tS] } ∧ o1.guard = none)
    (h : hoG n L sl ops K vt m) (r : Rl [] w0 ds bl0 bl vt m a w) (hK : ∀ bl vt m a w, K vt m → Rl [] w0 ds bl0 bl vt m a w → Q .normal a w) : (Code.region id ops false).wp Tryz.prog Q a w := by
 subst hfn
 have hlen := r.F.len
 obtain ⟨hp, hlt, hk⟩ := h
 rw [hlt] at hlen
 have E1 := slot_sl hb0 hr hs hp r
 have hrv := hr.rv bl (r.le 0 B hb0)
 have F := r.F
 have D := r.defers
 refine wp_region ?_
 rw [hsz]
 refine ops_valS (v := sl) (v' := (.slice ao n cap)) (w' := w) g0 h0.1 (unguarded h0.2.2) (by simp [execOp, h0.2.1, E1]) F D hlen (by decide) (hrv) fun a F D hlen E17 X => ?_
 refine ops_call (o := o1) (args := #[.slice ao n cap]) g1 h1.2.2 ?_ (few_at w r.R.gwAt (hr.same r.below) hs hn hz) ?_
 ·have := go_of Tryz.func7 (by kernel_rfl) (by kernel_rfl) #[.slice ao n cap] w
  have hf : a.eval (.func 7) = .func (.func 7) #[] #[] := rfl
  simp [execOp, h1.2.1, resolve, hf, E17, Deferred.ofValue, invoke, this]
 rintro e w' ⟨⟨b, rfl, hb⟩, hbel⟩
 refine ⟨_, rfl, ?_⟩
 rw [h1.1]
 exact seq_rest hnew (by decide) (hk b hb) ⟨F.put (v := .bool b) (v' := .bool b) rfl (some 18), r.R.pure hbel, r.le, r.len, (put_defers a (some 18) (.bool b)).trans D⟩ hK
set_option maxRecDepth 100000 in
theorem ho_ov {F : Fs} (hF : FsIs F) {B : Nat} {ao : Option Addr} {nn cap : Nat} {L : Nat → Int × ByteArray} {sl : Value} {w : World} (hr : Recs w B ao nn cap L sl) (hs : sl ≠ .nilIface) (hn : nn ≤ 1000000000000000) (hz : ∀ i, i < nn → (L i).2.size ≤ 1000000000000000) : OvOk Tryz.prog (hoO F hF nn L sl) [] w [] [some B] (bodyOf Tryz.prog 3) := by
 refine ovOk_by (ns := [(3, opsOf Tryz.prog 3 3, false), (7, #[(opOf Tryz.prog 3 7 0), (opOf Tryz.prog 3 7 1), (opOf Tryz.prog 3 7 2)], false), (9, #[(opOf Tryz.prog 3 9 0), (opOf Tryz.prog 3 9 1), (opOf Tryz.prog 3 9 2), (opOf Tryz.prog 3 9 3)], false), (20, opsOf Tryz.prog 3 20, false)]) (by kernel_rfl) ?_
 intro r hr'
 rcases List.mem_cons.1 hr' with rfl | hr'
 ·intro R hR K Q bl vt m a w1 h r hK
  cases hR
  exact hoG_sound (o0 := opOf Tryz.prog 3 3 0) (o1 := opOf Tryz.prog 3 3 1) (tS := 22) (fn := 7) rfl rfl hr hs hn hz (by kernel_rfl) (by kernel_rfl) (by kernel_rfl) (by kernel_rfl) ⟨by kernel_rfl, by kernel_rfl, by kernel_rfl⟩ ⟨by kernel_rfl, by kernel_rfl, by kernel_rfl⟩ h r hK
 rcases List.mem_cons.1 hr' with rfl | hr'
 ·intro R hR K Q bl vt m a w1 h r hK
  cases hR
  refine rLen_sound (K := forget hoK 104 2 K) (tS := 22) (tE := 44) (by decide) (by decide) (by decide) rfl hr hs (by kernel_rfl) rfl ⟨by kernel_rfl, by kernel_rfl, by kernel_rfl⟩ ⟨by kernel_rfl, by kernel_rfl, by kernel_rfl⟩ ⟨by kernel_rfl, by kernel_rfl, by kernel_rfl⟩ h r (fun bl vt m a w hk hrl => ?_)
  obtain ⟨bl', vt', m', k1, k2⟩ := hrl.cut (show 1 ≤ 2 by decide) hk
  exact hK bl' vt' m' a w k1 k2
 rcases List.mem_cons.1 hr' with rfl | hr'
 ·intro R hR K Q bl vt m a w1 h r hK
  cases hR
  exact eRec_sound (by decide) (by decide) (by decide) (by decide) (B := B) (tS := 22) (tR := 44) (z := .agg #[.int .i64 0, .string ⟨#[]⟩]) rfl hr (by kernel_rfl) (by kernel_rfl) (by kernel_rfl) (by kernel_rfl) rfl rfl ⟨by kernel_rfl, by kernel_rfl, by kernel_rfl⟩ ⟨by kernel_rfl, by kernel_rfl, by kernel_rfl⟩ ⟨by kernel_rfl, by kernel_rfl, by kernel_rfl⟩ ⟨by kernel_rfl, by kernel_rfl, by kernel_rfl⟩ h r hK
 rcases List.mem_cons.1 hr' with rfl | hr'
 ·intro R hR K Q bl vt m a w1 h r hK
  cases hR
  exact cutBy_sound xmixA (show 1 ≤ 2 by decide) h r hK
 ·cases hr'
theorem ho_loop {F : Fs} (hF : FsNq F) {P : Program} {fn : Func} {nn : Nat} {L : Nat → Int × ByteArray} {sl : Value} {Post : Value → Prop} {G : VQ → List Value → Xm → Prop} (hG : ∀ (t n i : Int) (d : Nat → Value) (c : Cra) (Q : VQ), G (retOf P fn Post Q) (hoF t n i sl d) (hoC c) =
      vif (decide (i < n)) ((0 ≤ i ∧ i.toNat < nn) ∧ sl = sl ∧ 2 = 2 ∧ 104 = 104 ∧ StepOk (c, laterT (t, (L i.toNat).1), (L i.toNat).2) ∧
        vif (stays c (laterT (t, (L i.toNat).1))) (hoA sl Post (laterT (t, (L i.toNat).1)) n i Q c)
          (hoY sl Post (laterT (t, (L i.toNat).1)) n i Q (stepF F c (laterT (t, (L i.toNat).1)) (L i.toNat).2).1 (bytesOf (tlOf (telF F (stepF F c (laterT (t, (L i.toNat).1)) (L i.toNat).2).1)))))
      (Q (.exit 0) (hoE t n i sl d) (hoC c))) (hn : nn ≤ 1000000) (hp : ptrOk 2 sl = true) (Q : VQ) (hQ : ∀ t i d c, Q (.exit 0) (hoE t nn i sl d) (hoC c)) (k : Nat) : ∀ (i : Nat), i + k = nn → ∀ (t : Int) (d : Nat → Value) (c : Cra), CInv c → HoI c → remS L i k ≤ 3000 → loopN (k + 1) G (retOf P fn Post Q) (hoF t nn i sl d) (hoC c) := by
 induction k with
 | zero =>
  intro i e t d c _ _ _
  rw [loop_ret, hG, decide_eq_false (by omega)]
  exact hQ _ _ _ _
 | succ k ih =>
  intro i e t d c hi ho hz
  have hz : (L i).2.size + remS L (i + 1) k ≤ 3000 := hz
  have hlf := ho.left
  rw [loop_ret, hG, decide_eq_true (by omega), Int.toNat_natCast]
  have hw : IntKind.i64.wrap ((i : Int) + 1) = ((i + 1 : Nat) : Int) := by
   rw [IntKind.wrap_i64]
   omega
  generalize laterT (t, (L i).1) = t'
  refine ⟨⟨by omega, by omega⟩, rfl, rfl, rfl, ⟨hi, by show c.2.2.1.size + (L i).2.size ≤ 5000; omega⟩, ?_⟩
  cases hs : stays c t'
  ·have hk := (took hF.is hi (L i).2 hs).1
   have ho' := ho.step hF (L i).2 hs hk
   have hto : tlOk (tlOf (telF F (stepF F c t' (L i).2).1)) = true := tel_ok F hk.inv
   refine ⟨⟨_, hto, rfl⟩, rfl, ⟨_, hto, by rw [opens_told]⟩, noneV_of ⟨ho'.held hk.inv, rfl, by rw [hp]; rfl, fun d => ?_⟩ ?_⟩
   ·rw [readS_of hto]
    have h1 : (tlOf (telF F (stepF F c t' (L i).2).1)).m = (cPlan (stepF F c t' (L i).2).1).1 := rfl
    have h2 : (tlOf (telF F (stepF F c t' (L i).2).1)).t = t' := hk.tick
    have h3 : (tlOf (telF F (stepF F c t' (L i).2).1)).rj = cRej (stepF F c t' (L i).2).1 := rfl
    have h4 : (tlOf (telF F (stepF F c t' (L i).2).1)).fa = (cPlan (stepF F c t' (L i).2).1).2.2.2.2.2.1 := rfl
    rw [decide_eq_true h1, decide_eq_true h2, decide_eq_true h3, decide_eq_true h4]
    simp
   ·rw [hw]
    exact ih (i + 1) (by omega) t' d _ hk.inv ho' (by omega)
  ·unfold hoA
   rw [hoEq_self]
   refine ⟨rfl, by rw [hp]; rfl, fun d => ?_⟩
   rw [hw]
   exact ih (i + 1) (by omega) t' d c hi ho (by omega)
set_option maxRecDepth 100000 in
theorem CraftHolds_walk {F : Fs} (hF : FsNq F) {B : Nat} {ao : Option Addr} {nn cap : Nat} {L : Nat → Int × ByteArray} {sl : Value} (t : Int) (w : World) (hw : GW w) (hr : Recs w B ao nn cap L sl) (hs : sl ≠ .nilIface) (hn : nn ≤ 1000000000000000) (hz : ∀ i, i < nn → (L i).2.size ≤ 1000000000000000) :
    Calls Tryz.prog 3 #[.int .i64 t, .slice ao nn cap] w fun e w' => e = .returned (.bool true) ∧ Below w.heap.size w w' := by
 have hp : ptrOk 2 sl = true := ptrOk_le hr.ok (by decide)
 refine Calls.mono (calls_sxO (tbl := hoT F hF.is) (dirty := fun _ => []) (n := nn + 1) (ov := hoO F hF.is nn L sl) xmixA (f := 3) (fn := fnOf Tryz.prog 3) (c := bodyOf Tryz.prog 3) (by kernel_rfl) (by kernel_rfl) (vargs := [.int .i64 t, sl]) (args := #[.int .i64 t, .slice ao nn cap]) (recs_rw hw hr) rfl rfl (fun i => ?_) (Post := fun v _ => v = .bool true) (ho_ov hF.is hr hs hn hz) ?_) ?_
 ·match i with
  | 0 => rfl
  | 1 => exact hr.rv [some B] rfl
  | _ + 2 => rfl
 ·refine Eq.mpr (ho_start F hF.is nn L sl (nn + 1) t (fun v => v = .bool true)) ⟨rfl, rfl, fun b hb => ?_⟩
  cases b
  ·rfl
  obtain ⟨h30, hrem⟩ := hb rfl
  show vif _ _ _
  by_cases h0 : t < 0
  ·rw [decide_eq_true h0]
   rfl
  rw [decide_eq_false h0]
  show vif _ _ _
  by_cases h1 : t > 157766400000
  ·rw [decide_eq_true h1]
   rfl
  rw [decide_eq_false h1]
  refine ⟨rfl, rfl, rfl, by rw [hp]; rfl, fun d => ?_⟩
  have e : retOf Tryz.prog (hoFn Tryz.prog) (fun v => v = .bool true) (qBl0 0 (hoQ F hF.is nn L sl (nn + 1) (retQ Tryz.prog (hoFn Tryz.prog) (fun v _ => v = .bool true)))) = qBl0 0 (hoQ F hF.is nn L sl (nn + 1) (retQ Tryz.prog (hoFn Tryz.prog) (fun v _ => v = .bool true))) := by
   funext e vt m
   cases e <;> rfl
  have hl := ho_loop hF (P := Tryz.prog) (fn := hoFn Tryz.prog) (nn := nn) (L := L) (sl := sl) (Post := fun v => v = .bool true) (fun t n i d c Q => ho_round F hF.is nn L sl (nn + 1) t n i d c (fun v => v = .bool true) Q) (by omega) hp (qBl0 0 (hoQ F hF.is nn L sl (nn + 1) (retQ Tryz.prog (hoFn Tryz.prog) (fun v _ => v = .bool true)))) (fun t i d c => Eq.mpr (ho_end F hF.is nn L sl (nn + 1) t nn i d c (fun v => v = .bool true)) rfl) nn 0 (by omega) t d zeroCra CInv.zero HoI.zero hrem
  rw [e] at hl
  exact hl
 ·rintro e w' ⟨v, bl', m2, rfl, rfl, R', _⟩
  exact ⟨rfl, R'.os, R'.tape, R'.output, R'.size, fun i hi => R'.block i hi (by simp)⟩
end Go.Proofs.YtbophanlmkbfeaaGreatDoor
namespace Go.Proofs.YtbophanlmkbfeaaGreatDoor
open Go.ChangeShapes Go.WideShapes Go.ChangeAt Go.RowKit Go.Joins
theorem laid_out : laidOutB Tryz.prog = true := by kernel_rfl
theorem rec_cells : Tryz.prog.cellsOf 44 = 2 := by kernel_rfl
theorem str_one : Tryz.prog.cellsOf 9 = 1 := by kernel_rfl
theorem i64_one : Tryz.prog.cellsOf 2 = 1 := by kernel_rfl
section
variable {H : Type} {enc : TypeId × Value → H} {w : World} {base : Nat} {held : Bool}
theorem trod_rec {spare : Nat → Bool} {fuel : Nat} {c0 c1 : Value} {x : DataW H × List MemPlace} (hf : DataW.trod enc Tryz.prog w base spare held fuel 44 [c0, c1] = some x) :
    ∃ a : Int × ByteArray, c0 = .int .i64 a.1 ∧ c1 = .string a.2 ∧ x.1 = .agg [.lit (.int .i64 a.1), .lit (.string a.2.data.toList)] := by
 obtain ⟨y0, y1, n, hx, _, h0, h1⟩ := trod_struct2 Tryz.underlying44 hf
 obtain ⟨x0, e0, rfl, _⟩ := DataW.trod_int Tryz.underlying2 h0
 obtain ⟨x1, e1, rfl, w1⟩ := DataW.trod_string Tryz.underlying9 h1
 simp only [i64_one, List.drop_zero, List.take_succ_cons, List.take_zero, List.cons.injEq, and_true] at e0
 simp only [str_one, List.drop_succ_cons, List.drop_zero, List.take_succ_cons, List.take_zero, List.cons.injEq, and_true] at e1
 exact ⟨(x0, x1), e0, e1, by rw [hx]⟩
theorem weight_in {e : TypeId} {d : DataW H} {n : Nat} (hn : n ∈ d.weights Tryz.prog e) : ∀ l : List (DataW H), d ∈ l → n ∈ DataW.weightsAll Tryz.prog e l
 | [], h => by cases h
 | x :: l, h => by
  unfold DataW.weightsAll
  rcases List.mem_cons.1 h with rfl | h
  ·exact List.mem_append_left _ hn
  ·exact List.mem_append_right _ (weight_in hn l h)
theorem rec_weight (a : Int × ByteArray) : a.2.data.toList.length ∈ DataW.weights Tryz.prog 44 (.agg [.lit (.int .i64 a.1), .lit (.string a.2.data.toList)] : DataW H) := by
 have e : DataW.weights Tryz.prog 44 (.agg [.lit (.int .i64 a.1), .lit (.string a.2.data.toList)] : DataW H) = [a.2.data.toList.length] := by kernel_rfl
 rw [e]
 exact List.mem_singleton_self _
theorem rec_bytes : 1 ≤ Tryz.prog.bytesOf 44 := by
 have e : Tryz.prog.bytesOf 44 = 24 := by kernel_rfl
 omega
set_option maxRecDepth 100000 in
theorem open_recs {fuel : Nat} {cs : List Value} {x : DataW H × List MemPlace} (hG : 0 < w.heap.size) (h : DataW.trod enc Tryz.prog w base (fun _ => true) held fuel 22 cs = some x) :
    ∃ (B : Nat) (ao : Option Addr) (nn cap : Nat) (L : Nat → Int × ByteArray) (sl : Value), cs = [.slice ao nn cap] ∧ Recs w B ao nn cap L sl ∧ ((DataW.weights Tryz.prog 22 x.1).all (· ≤ reachBytes) = true → nn ≤ reachBytes ∧ ∀ i, i < nn → (L i).2.size ≤ reachBytes) := by
 rcases Go.Deep.open_slice Tryz.underlying22 h with ⟨h0, _⟩ | ⟨a, len, cap, m, n, D, Pl, rfl, hb, hl, hm, hmm, rfl, hx⟩
 ·exact ⟨0, none, 0, 0, fun _ => (0, ⟨#[]⟩), .slice none 0 0, h0, ⟨fun _ _ => rfl, rfl, hG, fun h => absurd h (Nat.not_lt_zero _), fun i h => absurd h (Nat.not_lt_zero i)⟩, fun _ => ⟨Nat.zero_le _, fun i h => absurd h (Nat.not_lt_zero i)⟩⟩
 ·rw [if_pos rfl] at hmm
  have each : ∀ i, i < len → ∃ v : Int × ByteArray, w.cell? (a.add (i * 2)) = some (.int .i64 v.1) ∧ w.cell? (a.add (i * 2 + 1)) = some (.string v.2) ∧ D i = .agg [.lit (.int .i64 v.1), .lit (.string v.2.data.toList)] := by
   intro i hi
   obtain ⟨cs', h1, h2⟩ := hx i (by omega)
   rw [rec_cells] at h1
   obtain ⟨_, hlen, hcell⟩ := World.cells?_some h1
   match cs', hlen with
   | [c0, c1], _ =>
    obtain ⟨v, rfl, rfl, hv⟩ := trod_rec h2
    have g0 := hcell 0 (by omega)
    have g1 := hcell 1 (by omega)
    rw [Go.Deep.add_add] at g0 g1
    exact ⟨v, g0, g1, hv⟩
  have inh : Inhabited (Int × ByteArray) := ⟨(0, ⟨#[]⟩)⟩
  obtain ⟨L, hL⟩ := Go.Deep.choose_lt each
  by_cases h0 : len = 0
  ·subst h0
   exact ⟨0, some a, 0, cap, L, .nilIface, rfl, ⟨fun _ _ => rfl, rfl, hG, fun h => absurd h (Nat.not_lt_zero _), fun i h => absurd h (Nat.not_lt_zero i)⟩, fun _ => ⟨Nat.zero_le _, fun i h => absurd h (Nat.not_lt_zero i)⟩⟩
  ·obtain ⟨B, o, sp⟩ := a
   have s0 := (hL 0 (by omega)).1
   obtain rfl : sp = none := by simpa [Addr.add] using World.cell?_spot s0
   have hB : B < w.heap.size := by simpa [Addr.add] using World.block_lt_of_cell? _ _ s0
   simp only [add_is] at hL
   refine ⟨B, some ⟨B, o, none⟩, len, cap, L, .slice (some ⟨0, o, none⟩) len cap, rfl, ⟨fun bl hbl => ⟨B, hbl, rfl⟩, rfl, hB, (fun _ h => by cases h), fun i hi => ⟨o, rfl, (hL i hi).1, (hL i hi).2.1⟩⟩, fun hw => ?_⟩
   have hw : (DataW.weights Tryz.prog 22 (.slice ((List.range len).map D) ((List.range (m - len)).map fun j => D (len + j)))).all (· ≤ reachBytes) = true := hw
   unfold DataW.weights at hw
   rw [Tryz.underlying22] at hw
   simp only [List.all_eq_true, decide_eq_true_eq] at hw
   refine ⟨?_, fun i hi => ?_⟩
   ·have h1 := hw _ List.mem_cons_self
    rw [List.length_map, List.length_range] at h1
    have h2 : len * 1 ≤ (len + ((List.range (m - len)).map fun j => D (len + j)).length) * Tryz.prog.bytesOf 44 := Nat.mul_le_mul (Nat.le_add_right _ _) rec_bytes
    omega
   ·have h1 := rec_weight (H := H) (L i)
    rw [← (hL i hi).2.2] at h1
    exact hw _ (List.mem_cons_of_mem _ (List.mem_append_left _ (weight_in h1 _ (List.mem_map.2 ⟨i, List.mem_range.2 hi, rfl⟩))))
end
end Go.Proofs.YtbophanlmkbfeaaGreatDoor
namespace Go.Proofs.YtbophanlmkbfeaaGreatDoor
open Go.ChangeShapes Go.WideShapes Go.ChangeAt Go.RowKit
section
variable {H : Type} {enc : TypeId × Value → H} {w : World} {base : Nat} {held : Bool}
theorem shape_lt {b : Nat} {x : TypeId × Nat} (h : w.shape? b = some x) : b < w.heap.size := by
 by_cases c : b < w.heap.size
 ·exact c
 ·have e : w.heap[b]? = none := Array.getElem?_eq_none (by omega)
  unfold World.shape? at h
  rw [e] at h
  cases h
set_option maxRecDepth 100000 in
theorem open_recsV {r : Reach} {b0 : Nat} {v : Value} {d : DataW H} {ps : List MemPlace} (hG : 0 < w.heap.size) (hval : Value.okWide Tryz.prog w r b0 22 v) (hd : DataW.Trod enc Tryz.prog w base (fun _ => true) held 22 v d ps) :
    ∃ (B : Nat) (ao : Option Addr) (nn cap : Nat) (L : Nat → Int × ByteArray) (sl : Value), v = .slice ao nn cap ∧ Recs w B ao nn cap L sl ∧ sl ≠ .nilIface ∧ ((DataW.weights Tryz.prog 22 d).all (· ≤ reachBytes) = true → nn ≤ reachBytes ∧ ∀ i, i < nn → (L i).2.size ≤ reachBytes) := by
 obtain ⟨fuel, h⟩ := hd
 obtain ⟨B, ao, nn, cap, L, sl, e, hr, hw⟩ := open_recs hG h
 have hval : Cell.okWide Tryz.prog w r b0 22 v := by
  unfold Value.okWide at hval
  rw [Tryz.underlying22] at hval
  exact hval
 unfold Cell.okWide at hval
 rw [Tryz.underlying22] at hval
 have hval : Cell.ok Tryz.prog w r b0 22 v := by
  split at hval <;> first | exact hval | (rename_i h1 _ ; cases h1)
 unfold Cell.ok at hval
 rw [Tryz.underlying22] at hval
 have hv : v = .slice ao nn cap := by
  cases v with
  | slice a n c =>
   have e : [Value.slice a n c] = [.slice ao nn cap] := e
   exact (List.cons.inj e).1
  | _ => exact hval.elim
 subst hv
 by_cases hs : sl = .nilIface
 ·have h0 : nn = 0 := by
   by_cases c : nn = 0
   ·exact c
   ·exact absurd hs (hr.idx (i := 0) (by omega))
  subst h0
  cases ao with
  | none => exact ⟨B, none, 0, cap, L, .slice none 0 cap, rfl, ⟨fun _ _ => rfl, rfl, hr.lies, fun h => absurd h (Nat.not_lt_zero _), fun i h => absurd h (Nat.not_lt_zero i)⟩, (fun k => by cases k), hw⟩
  | some a =>
   obtain ⟨_, _, _, hsp, row, cells, hsh, _⟩ := hval
   obtain ⟨b, o, sp⟩ := a
   dsimp only at hsp hsh
   subst hsp
   exact ⟨b, some ⟨b, o, none⟩, 0, cap, L, .slice (some ⟨0, o, none⟩) 0 cap, rfl, ⟨fun bl hbl => ⟨b, hbl, rfl⟩, rfl, shape_lt hsh, fun h => absurd h (Nat.not_lt_zero _), fun i h => absurd h (Nat.not_lt_zero i)⟩, (fun k => by cases k), hw⟩
 ·exact ⟨B, ao, nn, cap, L, sl, rfl, hr, hs, hw⟩
end
end Go.Proofs.YtbophanlmkbfeaaGreatDoor
namespace Go.Proofs.YtbophanlmkbfeaaGreatDoor
open Go.ChangeShapes Go.WideShapes Go.ChangeAt Go.RowKit
def laid2 : List (String × DataW Unit) := [("alidade/field.atZero", Rows.laid_alidade_field_atZero), ("alidade/field.inYear", Rows.laid_alidade_field_inYear)]
theorem gAt : Tryz.prog.globalNamed "alidade/field.atZero" = some 0 := by kernel_rfl
theorem gYr : Tryz.prog.globalNamed "alidade/field.inYear" = some 1 := by kernel_rfl
theorem tAt : (Tryz.prog.globals[0]?).map (·.type) = some 272 := by kernel_rfl
theorem tYr : (Tryz.prog.globals[1]?).map (·.type) = some 273 := by kernel_rfl
theorem cell64 : Tryz.prog.cellsOf 2 = 1 := by kernel_rfl
theorem cell2 : Tryz.prog.cellsOf 271 = 2 := by kernel_rfl
theorem cells54 : Tryz.prog.cellsOf 272 = 54 := by kernel_rfl
theorem cells10 : Tryz.prog.cellsOf 273 = 10 := by kernel_rfl
def pairsD (zs : List (Int × Int)) : List (DataW Unit) := zs.map fun z => Lib.tabData .i64 [z.1, z.2]
theorem pair_at {w : World} {fuel : Nat} {cs : List Value} {z : Int × Int} {p : List MemPlace} (h : DataW.trod (fun _ => ()) Tryz.prog w 0 (fun _ => true) false fuel 271 cs = some (Lib.tabData .i64 [z.1, z.2], p)) : cs = [.int .i64 z.1, .int .i64 z.2] :=
 Lib.cells_of_tab Tryz.underlying271 Tryz.underlying2 cell64 cell2 h
theorem tab_cells {w : World} {fuel n : Nat} {t : TypeId} {cs : List Value} {zs : List (Int × Int)} {p : List MemPlace} (ht : Tryz.prog.underlying t = some (.array n 271)) (hc : Tryz.prog.cellsOf t = 2 * n)
    (h : DataW.trod (fun _ => ()) Tryz.prog w 0 (fun _ => true) false fuel t cs = some (.agg (pairsD zs), p)) : cs.length = 2 * n ∧ ∀ i, i < n → cs[2 * i]? = some (.int .i64 (zs.getD i (0, 0)).1) ∧ cs[2 * i + 1]? = some (.int .i64 (zs.getD i (0, 0)).2) := by
 obtain ⟨xs, m, rfl, hx, hl, hn, hel⟩ := DataW.trod_array ht h
 refine ⟨by rw [hl, hc], fun i hi => ?_⟩
 simp only [Prod.mk.injEq, DataW.agg.injEq] at hx
 have hz : zs.length = n := by
  have := congrArg List.length hx.1
  unfold pairsD at this
  simp at this
  omega
 have h1 := hel i hi
 have hxi : i < xs.length := by omega
 have e1 : xs[i]? = some xs[i] := List.getElem?_eq_getElem hxi
 have e2 : xs[i].1 = Lib.tabData .i64 [(zs.getD i (0, 0)).1, (zs.getD i (0, 0)).2] := by
  have a : (pairsD zs)[i]? = (xs.map (·.1))[i]? := by rw [hx.1]
  unfold pairsD at a
  rw [List.getElem?_map, List.getElem?_map, e1] at a
  have b : zs[i]? = some (zs.getD i (0, 0)) := by rw [List.getD_eq_getElem?_getD, List.getElem?_eq_getElem (by omega)]; rfl
  rw [b] at a
  simp only [Option.map_some, Option.some.injEq] at a
  exact a.symm
 rw [e1, cell2] at h1
 have h2 := pair_at (z := zs.getD i (0, 0)) (p := xs[i].2) (h1.trans (by rw [← e2]))
 have g0 : ((cs.drop (i * 2)).take 2)[0]? = some (.int .i64 (zs.getD i (0, 0)).1) := by rw [h2]; rfl
 have g1 : ((cs.drop (i * 2)).take 2)[1]? = some (.int .i64 (zs.getD i (0, 0)).2) := by rw [h2]; rfl
 rw [List.getElem?_take_of_lt (by decide), List.getElem?_drop] at g0 g1
 rw [show i * 2 + 0 = 2 * i by omega] at g0
 rw [show i * 2 + 1 = 2 * i + 1 by omega] at g1
 exact ⟨g0, g1⟩
def atP : List (Int × Int) := [(-293500, 0), (-14103, 45455), (-25562, 0), (29509, -31336), (16487, -8142), (13609, 0), (-24042, -569), (12438, 2376), (4534, -5496), (8947, 0), (7996, 2786), (558, -1340), (-2811, 2120), (120, -3754), (-2329, 0), (3690, 453), (1872, 2200), (-1387, -1229), (-1419, 429), (209, 1062), (643, 0), (638, -184), (767, 168), (-1157, 489), (-409, -598), (149, 109), (-608, 728)]
def yrP : List (Int × Int) := [(126, 0), (100, -215), (-112, 0), (-53, -273), (-83, -111)]
theorem atP_at (i : Nat) (h : i < 27) : (atP.getD i (0, 0)).1 = at0 (2 * i) ∧ (atP.getD i (0, 0)).2 = at0 (2 * i + 1) := by
 have a : ((List.range 27).all fun i => decide ((atP.getD i (0, 0)).1 = at0 (2 * i) ∧ (atP.getD i (0, 0)).2 = at0 (2 * i + 1))) = true := by decide +kernel
 exact of_decide_eq_true (List.all_eq_true.1 a i (List.mem_range.2 h))
theorem yrP_at (i : Nat) (h : i < 5) : (yrP.getD i (0, 0)).1 = yr0 (2 * i) ∧ (yrP.getD i (0, 0)).2 = yr0 (2 * i + 1) := by
 have a : ((List.range 5).all fun i => decide ((yrP.getD i (0, 0)).1 = yr0 (2 * i) ∧ (yrP.getD i (0, 0)).2 = yr0 (2 * i + 1))) = true := by decide +kernel
 exact of_decide_eq_true (List.all_eq_true.1 a i (List.mem_range.2 h))
theorem arr_of {W : World} {name : String} {g n : Nat} {cs : Array Value} {zs : List (Int × Int)} {f : Nat → Int} {ps : List MemPlace} (hg : Tryz.prog.globalNamed name = some g) (hv : W.var? Tryz.prog name = some cs) (hl : cs.toList.length = 2 * n)
    (hc : ∀ i, i < n → cs.toList[2 * i]? = some (.int .i64 (zs.getD i (0, 0)).1) ∧ cs.toList[2 * i + 1]? = some (.int .i64 (zs.getD i (0, 0)).2)) (hf : ∀ i, i < n → (zs.getD i (0, 0)).1 = f (2 * i) ∧ (zs.getD i (0, 0)).2 = f (2 * i + 1))
    (hp : ∀ i, i < cs.size → MemPlace.cell g i ∈ ps) (hfz : ∀ b off, MemPlace.cell b off ∈ ps → (∃ c t, W.heap[b]? = some (.cells c t (0, 0))) ∧ ∀ u v, W.cell? ⟨b, off, none⟩ = some (.iface u v) → Value.okWide Tryz.prog W .any 0 u v) (n0 : 0 < n) : Arr g (row (2 * n) f) W := by
 have hsz : cs.size = 2 * n := by simpa using hl
 obtain ⟨⟨c, t, hb⟩, _⟩ := hfz g 0 (hp 0 (by omega))
 refine ⟨fun i hi => ?_, fun i _ => ?_, (Array.getElem?_eq_some_iff.1 hb).1⟩
 ·have hi' : i < 2 * n := by rw [row_len] at hi; exact hi
  rw [row_get, World.var?_cell hg hv i, ← Array.getElem?_toList]
  obtain ⟨h0, h1⟩ := hc (i / 2) (by omega)
  obtain ⟨f0, f1⟩ := hf (i / 2) (by omega)
  by_cases e : i % 2 = 0
  ·rw [show 2 * (i / 2) = i by omega] at h0 f0
   rw [h0, f0]
  ·rw [show 2 * (i / 2) + 1 = i by omega] at h1 f1
   rw [h1, f1]
 ·unfold World.frozen?
  show (match W.heap[g]? with | some (.cells _ _ (lo, hi)) => decide (lo ≤ i) && decide (i < hi) | _ => false) = false
  rw [hb]
  simp
theorem of_laid {W : World} (h : laidMetH Tryz.prog laid2 W) : Arr 0 (row 54 at0) W ∧ Arr 1 (row 10 yr0) W := by
 rw [MakeChecks.laidMetH_plain _ _ _ (by kernel_rfl)] at h
 obtain ⟨ps, ⟨g0, t0, cs0, f0, p0, q0, hg0, ht0, hv0, hd0, ⟨g1, t1, cs1, f1, p1, q1, hg1, ht1, hv1, hd1, _, e1⟩, e0⟩, _, hfz⟩ := h
 obtain rfl := Option.some.inj (gAt.symm.trans hg0)
 obtain rfl := Option.some.inj (gYr.symm.trans hg1)
 obtain rfl := Option.some.inj (tAt.symm.trans ht0)
 obtain rfl := Option.some.inj (tYr.symm.trans ht1)
 obtain ⟨l0, c0⟩ := tab_cells (n := 27) (zs := atP) Tryz.underlying272 cells54 (show DataW.trod _ Tryz.prog W 0 _ false f0 272 cs0.toList = some (.agg (pairsD atP), p0) from hd0)
 obtain ⟨l1, c1⟩ := tab_cells (n := 5) (zs := yrP) Tryz.underlying273 cells10 (show DataW.trod _ Tryz.prog W 0 _ false f1 273 cs1.toList = some (.agg (pairsD yrP), p1) from hd1)
 have m0 : ∀ i, i < cs0.size → MemPlace.cell 0 i ∈ ps := fun i hi => by rw [e0]; simp [MemPlace.row, hi]
 have m1 : ∀ i, i < cs1.size → MemPlace.cell 1 i ∈ ps := fun i hi => by rw [e0, e1]; simp [MemPlace.row, hi]
 exact ⟨arr_of (n := 27) gAt hv0 l0 c0 atP_at m0 hfz (by decide), arr_of (n := 5) gYr hv1 l1 c1 yrP_at m1 hfz (by decide)⟩
theorem door_met (os : Os) (args : Array Value) : laidMetH Tryz.prog laid2 ((World.doorLaid Tryz.prog 51 os).forCall (fun _ _ => 0) ⟨#[], args, []⟩).memory :=
 laidMetH_of_parts3 (fuel := 8) (laidMet_of_run' 8 (by kernel_rfl) (by kernel_rfl)) (by kernel_rfl) (by kernel_rfl)
end Go.Proofs.YtbophanlmkbfeaaGreatDoor
