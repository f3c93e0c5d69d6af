/-
  CraftRuns, walked, for the seat YtoadcnhcfodkgaaGreatDoor.
-/
import Derived.Test.YtoadcnhcfodkgaaGreatDoorCrA
namespace Go.Proofs.YtoadcnhcfodkgaaGreatDoor
open Go.RowKit

theorem Rl.below {w0 : World} {ds : List Deferred} {bl0 bl : Bl} {vt : List Value} {m : Xm} {a : Act} {w : World} (r : Rl [] w0 ds bl0 bl vt m a w) : Below w0.heap.size w0 w := ⟨r.R.os, r.R.tape, r.R.output, r.R.size, fun i hi => r.R.block i hi (by simp)⟩
theorem crG_sound {w0 : World} {ds : List Deferred} {bl0 : Bl} {K : List Value → Xm → Prop} {Q : Exit → Act → World → Prop} {bl : Bl} {vt : List Value} {m : Xm} {a : Act} {w : World} {B : Nat} {ao : Option Addr} {n cap : Nat} {L : Nat → Int × ByteArray} {sl : Value} {ops : Array Oper} {id : Nat} {o0 o1 : Oper} {tS : TypeId} {fn : Nat} (hfn : fn = 5) (hb0 : bl0[0]? = some (some B)) (hr : Recs w0 B ao n cap L sl) (hs : sl ≠ .nilIface) (hn : n ≤ 1000000000000000) (hz : ∀ i, i < n → (L i).2.size ≤ 1000000000000000) (hnew : ops.all (fun o => !isNew o) = true) (hsz : List.range ops.size = [0, 1, 2, 3, 4, 5, 6, 7, 8, 9, 10])
    (g0 : ops[0]? = some o0) (g1 : ops[1]? = some o1) (h0 : o0.dst = some 16 ∧ o0.op = .move (.tmp 1) ∧ o0.guard = none) (h1 : o1.dst = some 17 ∧ o1.op = .call { callee := .value (.func fn), args := #[.tmp 16], argTypes := #[tS] } ∧ o1.guard = none)
    (h : crG n L sl ops K vt m) (r : Rl [] w0 ds bl0 bl vt m a w) (hK : ∀ bl vt m a w, K vt m → Rl [] w0 ds bl0 bl vt m a w → Q .normal a w) : (Code.region id ops false).wp Tryz.prog Q a w := by
  subst hfn
  have hlen := r.F.len
  obtain ⟨hp, hlt, hk⟩ := h
  rw [hlt] at hlen
  have E1 := slot_sl hb0 hr hs hp r
  have hrv := hr.rv bl (r.le 0 B hb0)
  have F := r.F
  have D := r.defers
  refine wp_region ?_
  rw [hsz]
  refine ops_valS (v := sl) (v' := (.slice ao n cap)) (w' := w) g0 h0.1 (unguarded h0.2.2) (by simp [execOp, h0.2.1, E1]) F D hlen (by decide) (hrv) fun a F D hlen E16 X => ?_
  refine ops_call (o := o1) (args := #[.slice ao n cap]) g1 h1.2.2 ?_ (few_at w r.R.gwAt (hr.same r.below) hs hn hz) ?_
  · have := go_of Tryz.func5 (by kernel_rfl) (by kernel_rfl) #[.slice ao n cap] w
    have hf : a.eval (.func 5) = .func (.func 5) #[] #[] := rfl
    simp [execOp, h1.2.1, resolve, hf, E16, Deferred.ofValue, invoke, this]
  rintro e w' ⟨⟨b, rfl, hb⟩, hbel⟩
  refine ⟨_, rfl, ?_⟩
  rw [h1.1]
  exact seq_rest hnew (by decide) (hk b hb) ⟨F.put (v := .bool b) (v' := .bool b) rfl (some 17), r.R.pure hbel, r.le, r.len, (put_defers a (some 17) (.bool b)).trans D⟩ hK
set_option maxRecDepth 100000 in
theorem cr_ov {F D : Fs} (h : BothOk F D) {B : Nat} {ao : Option Addr} {nn cap : Nat} {L : Nat → Int × ByteArray} {sl : Value} {w : World} (hr : Recs w B ao nn cap L sl) (hs : sl ≠ .nilIface) (hn : nn ≤ 1000000000000000) (hz : ∀ i, i < nn → (L i).2.size ≤ 1000000000000000) : OvOk Tryz.prog (crO F D h nn L sl) [] w [] [some B] (bodyOf Tryz.prog 3) := by
  refine ovOk_by (ns := [(3, opsOf Tryz.prog 3 3, false), (7, #[(opOf Tryz.prog 3 7 0), (opOf Tryz.prog 3 7 1), (opOf Tryz.prog 3 7 2)], false), (9, #[(opOf Tryz.prog 3 9 0), (opOf Tryz.prog 3 9 1), (opOf Tryz.prog 3 9 2), (opOf Tryz.prog 3 9 3)], false), (16, opsOf Tryz.prog 3 16, false)]) (by kernel_rfl) ?_
  intro r hr'
  rcases List.mem_cons.1 hr' with rfl | hr'
  · intro R hR K Q bl vt m a w1 h r hK
    cases hR
    exact crG_sound (o0 := opOf Tryz.prog 3 3 0) (o1 := opOf Tryz.prog 3 3 1) (tS := 22) (fn := 5) rfl rfl hr hs hn hz (by kernel_rfl) (by kernel_rfl) (by kernel_rfl) (by kernel_rfl) ⟨by kernel_rfl, by kernel_rfl, by kernel_rfl⟩ ⟨by kernel_rfl, by kernel_rfl, by kernel_rfl⟩ h r hK
  rcases List.mem_cons.1 hr' with rfl | hr'
  · intro R hR K Q bl vt m a w1 h r hK
    cases hR
    refine rLen_sound (K := forget crK 65 3 K) (tS := 22) (tE := 44) (by decide) (by decide) (by decide) rfl hr hs (by kernel_rfl) rfl ⟨by kernel_rfl, by kernel_rfl, by kernel_rfl⟩ ⟨by kernel_rfl, by kernel_rfl, by kernel_rfl⟩ ⟨by kernel_rfl, by kernel_rfl, by kernel_rfl⟩ h r (fun bl vt m a w hk hrl => ?_)
    obtain ⟨bl', vt', m', k1, k2⟩ := hrl.cut (show 1 ≤ 3 by decide) hk
    exact hK bl' vt' m' a w k1 k2
  rcases List.mem_cons.1 hr' with rfl | hr'
  · intro R hR K Q bl vt m a w1 h r hK
    cases hR
    exact eRec_sound (by decide) (by decide) (by decide) (by decide) (B := B) (tS := 22) (tR := 44) (z := .agg #[.int .i64 0, .string ⟨#[]⟩]) rfl hr (by kernel_rfl) (by kernel_rfl) (by kernel_rfl) (by kernel_rfl) rfl rfl ⟨by kernel_rfl, by kernel_rfl, by kernel_rfl⟩ ⟨by kernel_rfl, by kernel_rfl, by kernel_rfl⟩ ⟨by kernel_rfl, by kernel_rfl, by kernel_rfl⟩ ⟨by kernel_rfl, by kernel_rfl, by kernel_rfl⟩ h r hK
  rcases List.mem_cons.1 hr' with rfl | hr'
  · intro R hR K Q bl vt m a w1 h r hK
    cases hR
    exact cutBy_sound xmixA (show 1 ≤ 3 by decide) h r hK
  · cases hr'
set_option maxRecDepth 100000 in
theorem cr_loop {F D : Fs} (h : BothOk F D) {P : Program} {fn : Func} {nn : Nat} {L : Nat → Int × ByteArray} {sl : Value} {Post : Value → Prop} {G : VQ → List Value → Xm → Prop} (hG : ∀ (t n i : Int) (d : Nat → Value) (c : Cra) (Q : VQ), G (retOf P fn Post Q) (crF t n i sl d) (crC c) =
      vif (decide (i < n)) ((0 ≤ i ∧ i.toNat < nn) ∧ sl = sl ∧ 3 = 3 ∧ 65 = 65 ∧ CrQ (c, laterT (t, (L i.toNat).1), (L i.toNat).2) ∧ CrQ (c, laterT (t, (L i.toNat).1), (L i.toNat).2) ∧
        crA sl Post (laterT (t, (L i.toNat).1)) n i Q (stepF F c (laterT (t, (L i.toNat).1)) (L i.toNat).2))
      (Q (.exit 0) (crE t n i sl d) (crC c))) (hn : nn ≤ 1000000) (hp : ptrOk 3 sl = true) (Q : VQ) (hQ : ∀ t i d c, Q (.exit 0) (crE t nn i sl d) (crC c)) (k : Nat) : ∀ (i : Nat), i + k = nn → ∀ (t : Int) (d : Nat → Value) (c : Cra), CInv c → DrI (cDrif c) → c.2.2.1.size ≤ 68 → remS L i k ≤ 3000 → loopN (k + 1) G (retOf P fn Post Q) (crF t nn i sl d) (crC c) := by
  induction k with
  | zero =>
    intro i e t d c _ _ _ _
    rw [loop_ret, hG, decide_eq_false (by omega)]
    exact hQ _ _ _ _
  | succ k ih =>
    intro i e t d c hi hd hl hz
    have hz : (L i).2.size + remS L (i + 1) k ≤ 3000 := hz
    rw [loop_ret, hG, decide_eq_true (by omega), Int.toNat_natCast]
    have hw : IntKind.i64.wrap ((i : Int) + 1) = ((i + 1 : Nat) : Int) := by
      rw [IntKind.wrap_i64]
      omega
    generalize laterT (t, (L i).1) = t'
    have hq : CrQ (c, t', (L i).2) := ⟨hi, hd, by show c.2.2.1.size + (L i).2.size ≤ 5000; omega⟩
    refine ⟨⟨by omega, by omega⟩, rfl, rfl, rfl, hq, hq, ?_⟩
    obtain ⟨_, hi', hd', hl'⟩ := step_both h.is h.same h.next hi hd t' (L i).2
    have hl2 : (stepF F c t' (L i).2).1.2.2.1.size ≤ 68 := by
      rcases hl' with e | e
      · exact e
      · rw [e]; exact hl
    unfold crA
    rw [crEq_self, beq_self_eq_true]
    refine ⟨rfl, by rw [hp]; rfl, fun d => ?_⟩
    rw [hw]
    exact ih (i + 1) (by omega) t' d _ hi' hd' hl2 (by omega)
set_option maxRecDepth 100000 in
theorem CraftRuns_walk {F D : Fs} (h : BothOk F D) {B : Nat} {ao : Option Addr} {nn cap : Nat} {L : Nat → Int × ByteArray} {sl : Value} (t : Int) (w : World) (hw : GW w) (hr : Recs w B ao nn cap L sl) (hs : sl ≠ .nilIface) (hn : nn ≤ 1000000000000000) (hz : ∀ i, i < nn → (L i).2.size ≤ 1000000000000000) :
    Calls Tryz.prog 3 #[.int .i64 t, .slice ao nn cap] w fun e w' => e = .returned (.bool true) ∧ Below w.heap.size w w' := by
  have hp : ptrOk 3 sl = true := ptrOk_le hr.ok (by decide)
  refine Calls.mono (calls_sxO (tbl := crT F D h) (dirty := fun _ => []) (n := nn + 1) (ov := crO F D h nn L sl) xmixA (f := 3) (fn := fnOf Tryz.prog 3) (c := bodyOf Tryz.prog 3) (by kernel_rfl) (by kernel_rfl) (vargs := [.int .i64 t, sl]) (args := #[.int .i64 t, .slice ao nn cap]) (recs_rw hw hr) rfl rfl (fun i => ?_) (Post := fun v _ => v = .bool true) (cr_ov h hr hs hn hz) ?_) ?_
  · match i with
    | 0 => rfl
    | 1 => exact hr.rv [some B] rfl
    | _ + 2 => rfl
  · refine Eq.mpr (cr_start F D h nn L sl (nn + 1) t (fun v => v = .bool true)) ⟨rfl, rfl, fun b hb => ?_⟩
    cases b
    · rfl
    obtain ⟨h30, hrem⟩ := hb rfl
    show vif _ _ _
    by_cases h0 : t < 0
    · rw [decide_eq_true h0]
      rfl
    rw [decide_eq_false h0]
    show vif _ _ _
    by_cases h1 : t > 157766400000
    · rw [decide_eq_true h1]
      rfl
    rw [decide_eq_false h1]
    refine ⟨rfl, rfl, rfl, by rw [hp]; rfl, fun d => ?_⟩
    have e : retOf Tryz.prog (crFn Tryz.prog) (fun v => v = .bool true) (qBl0 0 (crQ0 F D h nn L sl (nn + 1) (retQ Tryz.prog (crFn Tryz.prog) (fun v _ => v = .bool true)))) = qBl0 0 (crQ0 F D h nn L sl (nn + 1) (retQ Tryz.prog (crFn Tryz.prog) (fun v _ => v = .bool true))) := by
      funext e vt m
      cases e <;> rfl
    have hl := cr_loop h (P := Tryz.prog) (fn := crFn Tryz.prog) (nn := nn) (L := L) (sl := sl) (Post := fun v => v = .bool true) (fun t n i d c Q => cr_round F D h nn L sl (nn + 1) t n i d c (fun v => v = .bool true) Q) (by omega) hp (qBl0 0 (crQ0 F D h nn L sl (nn + 1) (retQ Tryz.prog (crFn Tryz.prog) (fun v _ => v = .bool true)))) (fun t i d c => Eq.mpr (cr_end F D h nn L sl (nn + 1) t nn i d c (fun v => v = .bool true)) rfl) nn 0 (by omega) t d zeroCra CInv.zero (show DrI (cDrif zeroCra) from ⟨by decide, by decide⟩) (by decide) hrem
    rw [e] at hl
    exact hl
  · rintro e w' ⟨v, bl', m2, rfl, rfl, R', _⟩
    exact ⟨rfl, R'.os, R'.tape, R'.output, R'.size, fun i hi => R'.block i hi (by simp)⟩
end Go.Proofs.YtoadcnhcfodkgaaGreatDoor
