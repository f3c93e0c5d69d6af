/-
  CraftHolds: few, for the seat YtoadcnhcfodkgaaGreatDoor.
-/
import Derived.Test.YtoadcnhcfodkgaaGreatDoorHoA
namespace Go.Proofs.YtoadcnhcfodkgaaGreatDoor
open Go.RowKit

theorem fwG_sound {w0 : World} {ds : List Deferred} {bl0 : Bl} {K : List Value → Xm → Prop} {Q : Exit → Act → World → Prop} {bl : Bl} {vt : List Value} {m : Xm} {a : Act} {w : World} {B : Nat} {ao : Option Addr} {n cap : Nat} {L : Nat → Int × ByteArray} {sl : Value} {ops : Array Oper} {id : Nat} {o0 o1 : Oper} {tS tE : TypeId} (hb0 : bl0[0]? = some (some B)) (hr : Recs w0 B ao n cap L sl) (hn : sl ≠ .nilIface) (hu : Tryz.prog.underlying tS = some (.slice tE)) (hnew : ops.all (fun o => !isNew o) = true) (hsz : List.range ops.size = [0, 1, 2, 3])
    (g0 : ops[0]? = some o0) (g1 : ops[1]? = some o1) (h0 : o0.dst = some 20 ∧ o0.op = .move (.tmp 0) ∧ o0.guard = none) (h1 : o1.dst = some 21 ∧ o1.op = .call { callee := .builtin .len, args := #[.tmp 20], argTypes := #[tS] } ∧ o1.guard = none)
    (h : fwG n sl ops K vt m) (r : Rl [] w0 ds bl0 bl vt m a w) (hK : ∀ bl vt m a w, K vt m → Rl [] w0 ds bl0 bl vt m a w → Q .normal a w) : (Code.region id ops false).wp Tryz.prog Q a w := by
  have hlen := r.F.len
  obtain ⟨hp, hlt, hk⟩ := h
  rw [hlt] at hlen
  have E0 := slot_sl hb0 hr hn hp r
  have hrv := hr.rv bl (r.le 0 B hb0)
  have r0 := run_under hu w
  have F := r.F
  have D := r.defers
  refine wp_region ?_
  rw [hsz]
  refine ops_valS (v := sl) (v' := (.slice ao n cap)) (w' := w) g0 h0.1 (unguarded h0.2.2) (by simp [execOp, h0.2.1, E0]) F D hlen (by decide) (hrv) fun a F D hlen E20 X => ?_
  refine ops_valS (v := .int .i64 (n : Nat)) (v' := (.int .i64 (n : Nat))) (w' := w) g1 h1.1 (unguarded h1.2.2) (by simp [execOp, h1.2.1, resolve, invoke, builtin, E20, Builtin.len_, r0, goInt]) F D hlen (by decide) (rfl) fun a F D hlen E21 X => ?_
  exact seq_rest hnew (by decide) hk ⟨F, r.R, r.le, r.len, D⟩ hK
set_option maxRecDepth 100000 in
theorem fw_ov {B : Nat} {ao : Option Addr} {nn cap : Nat} {L : Nat → Int × ByteArray} {sl : Value} {w : World} (hr : Recs w B ao nn cap L sl) (hn : sl ≠ .nilIface) : OvOk Tryz.prog (fwO nn L sl) [] w [] [some B] (bodyOf Tryz.prog 5) := by
  refine ovOk_by (ns := [(2, #[(opOf Tryz.prog 5 2 0), (opOf Tryz.prog 5 2 1), (opOf Tryz.prog 5 2 2)], false), (4, #[(opOf Tryz.prog 5 4 0), (opOf Tryz.prog 5 4 1), (opOf Tryz.prog 5 4 2), (opOf Tryz.prog 5 4 3)], false), (8, opsOf Tryz.prog 5 8, false), (9, opsOf Tryz.prog 5 9, false)]) (by kernel_rfl) ?_
  intro r hr'
  rcases List.mem_cons.1 hr' with rfl | hr'
  · intro R hR K Q bl vt m a w1 h r hK
    cases hR
    refine rLen_sound (K := forget fwK 23 1 K) (tS := 22) (tE := 44) (by decide) (by decide) (by decide) rfl hr hn (by kernel_rfl) rfl ⟨by kernel_rfl, by kernel_rfl, by kernel_rfl⟩ ⟨by kernel_rfl, by kernel_rfl, by kernel_rfl⟩ ⟨by kernel_rfl, by kernel_rfl, by kernel_rfl⟩ h r (fun bl vt m a w hk hrl => ?_)
    obtain ⟨bl', vt', m', k1, k2⟩ := hrl.cut (show 1 ≤ 1 by decide) hk
    exact hK bl' vt' m' a w k1 k2
  rcases List.mem_cons.1 hr' with rfl | hr'
  · intro R hR K Q bl vt m a w1 h r hK
    cases hR
    exact eRec_sound (by decide) (by decide) (by decide) (by decide) (B := B) (tS := 22) (tR := 44) (z := .agg #[.int .i64 0, .string ⟨#[]⟩]) rfl hr (by kernel_rfl) (by kernel_rfl) (by kernel_rfl) (by kernel_rfl) rfl rfl ⟨by kernel_rfl, by kernel_rfl, by kernel_rfl⟩ ⟨by kernel_rfl, by kernel_rfl, by kernel_rfl⟩ ⟨by kernel_rfl, by kernel_rfl, by kernel_rfl⟩ ⟨by kernel_rfl, by kernel_rfl, by kernel_rfl⟩ h r hK
  rcases List.mem_cons.1 hr' with rfl | hr'
  · intro R hR K Q bl vt m a w1 h r hK
    cases hR
    exact cutBy_sound xmixA (show 1 ≤ 1 by decide) h r hK
  rcases List.mem_cons.1 hr' with rfl | hr'
  · intro R hR K Q bl vt m a w1 h r hK
    cases hR
    exact fwG_sound (o0 := opOf Tryz.prog 5 9 0) (o1 := opOf Tryz.prog 5 9 1) (tS := 22) (tE := 44) rfl hr hn (by kernel_rfl) (by kernel_rfl) (by kernel_rfl) (by kernel_rfl) (by kernel_rfl) ⟨by kernel_rfl, by kernel_rfl, by kernel_rfl⟩ ⟨by kernel_rfl, by kernel_rfl, by kernel_rfl⟩ h r hK
  · cases hr'
theorem fw_loop {P : Program} {fn : Func} {nn : Nat} {L : Nat → Int × ByteArray} {sl : Value} {Post : Value → Prop} {G : VQ → List Value → Xm → Prop} (hG : ∀ (s n i : Int) (d : Nat → Value) (Q : VQ), G (retOf P fn Post Q) (fwF s n i sl d) [[]] =
      vif (decide (i < n)) ((0 ≤ i ∧ i.toNat < nn) ∧ sl = sl ∧ 1 = 1 ∧ 23 = 23 ∧ vif (decide (IntKind.i64.wrap (s + ((L i.toNat).2.size : Nat)) > 3000)) (Post (.bool false)) (23 = 23 ∧ (ptrOk 1 sl && (ptrOk 1 sl && true)) = true ∧ ∀ d, Q .normal (fwF (IntKind.i64.wrap (s + ((L i.toNat).2.size : Nat))) n (IntKind.i64.wrap (i + 1)) sl d) [[]]))
      (Q (.exit 0) (fwE s n i sl d) [[]])) (hn : nn ≤ 1000000000000000) (hz : ∀ i, i < nn → (L i).2.size ≤ 1000000000000000) (hp : ptrOk 1 sl = true) (hf : Post (.bool false)) (Q : VQ)
    (hQ : ∀ s i d, s + 0 ≤ 3000 → remS L 0 nn = s → Q (.exit 0) (fwE s nn i sl d) [[]]) (k : Nat) : ∀ (i : Nat), i + k = nn → ∀ (s : Nat) (d : Nat → Value), s ≤ 3000 → remS L 0 nn = s + remS L i k → loopN (k + 1) G (retOf P fn Post Q) (fwF s nn i sl d) [[]] := by
  induction k with
  | zero =>
    intro i e s d hs hr
    rw [loop_ret, hG, decide_eq_false (by omega)]
    exact hQ s i d (by omega) hr
  | succ k ih =>
    intro i e s d hs hr
    have hr : remS L 0 nn = s + ((L i).2.size + remS L (i + 1) k) := hr
    have hzi := hz i (by omega)
    rw [loop_ret, hG, decide_eq_true (by omega), Int.toNat_natCast]
    have hw : IntKind.i64.wrap ((i : Int) + 1) = ((i + 1 : Nat) : Int) := by
      rw [IntKind.wrap_i64]
      omega
    have hv : IntKind.i64.wrap ((s : Int) + ((L i).2.size : Nat)) = ((s + (L i).2.size : Nat) : Int) := by
      rw [IntKind.wrap_i64]
      omega
    rw [hw, hv]
    refine ⟨⟨by omega, by omega⟩, rfl, rfl, rfl, ?_⟩
    by_cases hg : ((s + (L i).2.size : Nat) : Int) > 3000
    · rw [decide_eq_true hg]
      exact hf
    · rw [decide_eq_false hg]
      refine ⟨rfl, by rw [hp]; rfl, fun d => ?_⟩
      exact ih (i + 1) (by omega) (s + (L i).2.size) d (by omega) (by omega)
def qBl0 (id : Nat) (Q : VQ) : VQ := fun e vt' m' => match e with
  | .exit id' => if id' = id then Q .normal vt' m' else Q (.exit id') vt' m'
  | e => Q e vt' m'
/-- Records that came with the call, as block 0. -/
theorem recs_rw {B : Nat} {ao : Option Addr} {nn cap : Nat} {L : Nat → Int × ByteArray} {sl : Value} {w : World} (hw : GW w) (hr : Recs w B ao nn cap L sl) : RW [] w [some B] [[]] w := by
  refine ⟨fun i C hi => ?_, fun i j C hi hj => ?_, fun i C hi => ?_, rfl, rfl, rfl, Nat.le_refl _, fun _ _ _ => rfl, hw, fun b hb => by cases hb⟩
  · match i, hi with
    | 0, hi => cases hi; exact ⟨[], rfl, fun i h => absurd h (Nat.not_lt_zero i), fun i h => absurd h (Nat.not_lt_zero i), hr.lies⟩
  · match i, j, hi, hj with
    | 0, 0, _, _ => rfl
  · match i, hi with
    | 0, _ => exact .inr (.inr rfl)
set_option maxRecDepth 100000 in
theorem few_at {B : Nat} {ao : Option Addr} {nn cap : Nat} {L : Nat → Int × ByteArray} {sl : Value} (w : World) (hw : GW w) (hr : Recs w B ao nn cap L sl) (hs : sl ≠ .nilIface) (hn : nn ≤ 1000000000000000) (hz : ∀ i, i < nn → (L i).2.size ≤ 1000000000000000) :
    Calls Tryz.prog 5 #[.slice ao nn cap] w fun e w' => (∃ b, e = .returned (.bool b) ∧ (b = true → nn ≤ 30 ∧ remS L 0 nn ≤ 3000)) ∧ Below w.heap.size w w' := by
  have key : ∃ Post : Value → Prop, Post = fun v => ∃ b, v = .bool b ∧ (b = true → nn ≤ 30 ∧ remS L 0 nn ≤ 3000) := ⟨_, rfl⟩
  obtain ⟨Post, hPost⟩ := key
  have hf : Post (.bool false) := by rw [hPost]; exact ⟨false, rfl, fun h => by cases h⟩
  refine Calls.mono (calls_sxO (tbl := []) (dirty := fun _ => []) (n := nn + 1) (ov := fwO nn L sl) xmixA (f := 5) (fn := fnOf Tryz.prog 5) (c := bodyOf Tryz.prog 5) (by kernel_rfl) (by kernel_rfl) (vargs := [sl]) (args := #[.slice ao nn cap]) (recs_rw hw hr) rfl rfl (fun i => ?_) (Post := fun v _ => Post v) (fw_ov hr hs) ?_) ?_
  · match i with
    | 0 => exact hr.rv [some B] rfl
    | _ + 1 => rfl
  · refine Eq.mpr (fw_start nn L sl (nn + 1) _) ⟨rfl, rfl, rfl, by rw [hr.ok]; rfl, fun d => ?_⟩
    have e : retOf Tryz.prog (fnOf Tryz.prog 5) Post (qBl0 0 (fwQ nn L sl (nn + 1) (retQ Tryz.prog (fnOf Tryz.prog 5) (fun v _ => Post v)))) = qBl0 0 (fwQ nn L sl (nn + 1) (retQ Tryz.prog (fnOf Tryz.prog 5) (fun v _ => Post v))) := by
      funext e vt m
      cases e <;> rfl
    have hl := fw_loop (P := Tryz.prog) (fn := fnOf Tryz.prog 5) (nn := nn) (L := L) (sl := sl) (Post := Post) (fun s n i d Q => fw_round nn L sl (nn + 1) s n i d Post Q) hn hz hr.ok hf (qBl0 0 (fwQ nn L sl (nn + 1) (retQ Tryz.prog (fnOf Tryz.prog 5) (fun v _ => Post v)))) (fun s i d hs hrm => ?_) nn 0 (by omega) 0 d (by omega) (by omega)
    · rw [e] at hl
      exact hl
    · refine Eq.mpr (fw_end nn L sl (nn + 1) s nn i d Post) ⟨rfl, rfl, ?_⟩
      rw [hPost]
      exact ⟨_, rfl, fun h => ⟨by have := of_decide_eq_true h; omega, by omega⟩⟩
  · rintro e w' ⟨v, bl', m2, rfl, hv, R', _⟩
    rw [hPost] at hv
    obtain ⟨b, rfl, hb⟩ := hv
    exact ⟨⟨b, rfl, hb⟩, R'.os, R'.tape, R'.output, R'.size, fun i hi => R'.block i hi (by simp)⟩
end Go.Proofs.YtoadcnhcfodkgaaGreatDoor
