/-
A part.
A part.
A part.
A part.
-/
import Derived.Test.YteeohbiaclojaaaGreatDoorHU34
import Derived.Test.YteeohbiaclojaaaGreatDoorHU13
import Derived.Test.YteeohbiaclojaaaGreatDoorHU33
namespace Go.Proofs.YteeohbiaclojaaaGreatDoor
open Go.RowKit
theorem take_none (F : Fs) (t : Int) : takeW F zeroCra t noBytes = (leftC zeroCra (restOf []), zeroHea) := rfl
theorem cnt_small (b : Bool) : cntW 0 b ≤ 1 := by
 unfold cntW
 cases b
 ·decide
 ·decide
theorem zero_next {s : See} (h : s.2.2.2.2.2.2.2 = 0) : (nextT ((0, 0, 0, 0, 0, 0, ()), s)).1 = 0 := by
 show (nextW ⟨0, 0, 0, 0, 0, 0⟩ (snOf s)).mode = 0
 have h1 : ¬ (snOf s).order = 1 := by
  show ¬ s.2.2.2.2.2.2.2 = 1
  omega
 unfold nextW nextV
 rw [if_neg h1, if_neg (by decide), if_pos rfl]
 unfold detW
 dsimp only
 rw [if_neg (by have := cnt_small ((snOf s).gyro && (snOf s).slow); omega)]
theorem first_step {F : Fs} (hF : FsIs F) : (stepF F zeroCra 5 noBytes).1.1 = true ∧ (telF F (stepF F zeroCra 5 noBytes).1).1 = 5 ∧ (telF F (stepF F zeroCra 5 noBytes).1).2.1 = 0 ∧ CInv (stepF F zeroCra 5 noBytes).1 := by
 have hs : stays zeroCra 5 = false := rfl
 obtain ⟨k, _⟩ := took hF CInv.zero noBytes hs
 refine ⟨k.on, k.tick, ?_, k.inv⟩
 show (cPlan (stepF F zeroCra 5 noBytes).1).1 = 0
 obtain ⟨p, s, hp, _, ho, _, hn⟩ := k.plan
 rw [take_none] at ho
 have hp : p = (0, 0, 0, 0, 0, 0, ()) := by
  rcases hp with e | e <;> rw [e] <;> rfl
 subst hp
 have hz := zero_next ho
 rcases hn with e | ⟨e, _⟩
 ·rw [e]
  exact hz
 ·exact absurd (hz.symm.trans e) (by decide)
set_option maxRecDepth 100000 in
theorem lights_at {F : Fs} (hF : FsIs F) (w : World) (hw : GW w) : Calls Tryz.prog 4 #[] w fun e w' => e = .returned (.bool true) ∧ Below w.heap.size w w' := by
 obtain ⟨h1, h2, h3, hi⟩ := first_step hF
 have hto := tel_ok F hi
 have hb := (took hF CInv.zero noBytes (show stays zeroCra 5 = false from rfl)).2
 have hst : ∀ w, GW w → Calls Tryz.prog 7 ((then' cCra (then' cI (lone' cS))).enc (zeroCra, 5, noBytes)).toArray w fun e w' => e = .returned ((two' cCra cS).enc ((true, (stepF F zeroCra 5 noBytes).1.2), bytesOf (tlOf (telF F (stepF F zeroCra 5 noBytes).1)))) ∧ Below w.heap.size w w' := fun w hw => by
  have := stepF_at hF.ok zeroCra 5 noBytes (show (0 : Nat) ≤ 5000 by decide) w hw
  rw [hb] at this
  rw [show ((true, (stepF F zeroCra 5 noBytes).1.2) : Cra) = (stepF F zeroCra 5 noBytes).1 from by rw [← h1]]
  exact this
 generalize (stepF F zeroCra 5 noBytes).1 = d at h1 h2 h3 hi hto hst
 have htd : ∀ w, GW w → Calls Tryz.prog 8 ((lone' cS).enc (bytesOf (tlOf (telF F d)))).toArray w fun e w' => e = .returned ((two' (cT 13) cB).enc ((5, 0, (telF F d).2.2), true)) ∧ Below w.heap.size w w' := fun w hw => by
  have := told_at ⟨_, hto, rfl⟩ w hw
  rw [readS_of hto, tlT_of] at this
  rw [show ((5, 0, (telF F d).2.2) : Tel) = telF F d from by rw [← h2, ← h3]; rfl]
  exact this
 generalize (telF F d).2.2 = T at htd
 generalize bytesOf (tlOf (telF F d)) = s at hst htd
 generalize d.2 = e at hst
 refine pure_at (d := none') (k := cB) (x := ()) (y := true) (tbl := [ctAt Tryz.prog 7 (then' cCra (then' cI (lone' cS))) (two' cCra cS) (zeroCra, 5, noBytes) ((true, e), s) (go_of Tryz.func7 (by kernel_rfl) (by kernel_rfl)) hst, ctAt Tryz.prog 8 (lone' cS) (two' (cT 13) cB) s ((5, 0, T), true) (go_of Tryz.func8 (by kernel_rfl) (by kernel_rfl)) htd]) (dirty := fun _ => []) (n := 4) xmixA Tryz.func4 rfl (fun Post hP => ?_) w hw
 refine Eq.mpr (β := (then' cCra (then' cI (lone' cS))).enc (zeroCra, 5, noBytes) = (then' cCra (then' cI (lone' cS))).enc (zeroCra, 5, noBytes) ∧ (lone' cS).enc s = (lone' cS).enc s ∧ PJ cB Post true) (by kernel_rfl) ⟨rfl, rfl, hP⟩
def liK : List Nat := [1, 3, 8, 9, 7]
def liF (s n i : Int) (sl : Value) (d : Nat → Value) : List Value := frm [(1, ptr 1), (3, .int .i64 s), (8, .int .i64 n), (9, .int .i64 i), (7, sl)] d 35
def liE (s n i : Int) (sl : Value) (d : Nat → Value) : List Value := vset ((liF s n i sl d).set 10 (.bool (decide (i < n)))) (.tmp 10) false
def lgE (ao : Option Addr) (n cap : Nat) (sl : Value) (ops : Array Oper) (K : List Value → Xm → Prop) (vt : List Value) (m : Xm) : Prop :=
 vt.getD 1 undef = .pointer (some ⟨1, 0, none⟩) ∧ (∃ x, m[1]? = some [x, .slice ao n cap]) ∧ vt.length = 35 ∧ vseq Tryz.prog [] ops (nid 0 ops) K [3, 4, 5, 6, 7, 8, 9, 10, 11, 12, 13, 14] (((vt.set 21 .nilIface).set 22 sl).set 23 (.int .i64 (n : Nat))) m
def liO (ao : Option Addr) (n cap : Nat) (L : Nat → Int × ByteArray) (sl : Value) : Ov := fun id => match id with
 | 2 => some fun _ _ K => eSl 1 6 7 8 9 35 ao n cap sl (forget liK 35 2 K)
 | 4 => some fun _ _ => eRec 7 9 11 12 5 2 35 n L sl
 | 8 => some (cutBy Tryz.prog [] (fun _ => []) 8 liK 35 2)
 | 9 => some fun ops _ => lgE ao n cap sl ops
 | _ => none
def liB (P : Program) : Code := cpart [true, true, false, true] (bodyOf P 6)
def liL (P : Program) : Code := cpart [false, false] (liB P)
def liZ (P : Program) : Code := cpart [true, true, true] (bodyOf P 6)
def retOf (P : Program) (fn : Func) (Post : Value → Prop) (Q : VQ) : VQ := fun e vt m => match e with
 | .ret => retQ P fn (fun v _ => Post v) .ret vt m
 | e => Q e vt m
section
variable (ao : Option Addr) (nn cap : Nat) (L : Nat → Int × ByteArray) (sl : Value)
set_option maxRecDepth 100000 in
theorem li_round (k : Nat) (s n i : Int) (d : Nat → Value) (pl : List Value) (Post : Value → Prop) (Q : VQ) :
    swpO Tryz.prog [] (fun _ => []) k (liO ao nn cap L sl) (liL Tryz.prog) (retOf Tryz.prog (fnOf Tryz.prog 6) Post Q) (liF s n i sl d) [[], pl] =
      vif (decide (i < n)) ((0 ≤ i ∧ i.toNat < nn) ∧ sl = sl ∧ 2 = 2 ∧ 35 = 35 ∧ vif (decide (IntKind.i64.wrap (s + ((L i.toNat).2.size : Nat)) > 3000)) (Post (.bool false)) (35 = 35 ∧ (ptrOk 2 sl && true) = true ∧ ∀ d, Q .normal (liF (IntKind.i64.wrap (s + ((L i.toNat).2.size : Nat))) n (IntKind.i64.wrap (i + 1)) sl d) [[], pl]))
      (Q (.exit 0) (liE s n i sl d) [[], pl]) := by kernel_rfl
set_option maxRecDepth 100000 in
theorem li_end (k : Nat) (s n i t : Int) (d : Nat → Value) (Post : Value → Prop) :
    swpO Tryz.prog [] (fun _ => []) k (liO ao nn cap L sl) (liZ Tryz.prog) (retQ Tryz.prog (fnOf Tryz.prog 6) (fun v _ => Post v)) (liE s n i sl d) [[], [.int .i64 t, .slice ao nn cap]] =
      (ptr 1 = ptr 1 ∧ (∃ x, some [Value.int .i64 t, .slice ao nn cap] = some [x, .slice ao nn cap]) ∧ 35 = 35 ∧ vif (decide (((nn : Nat) : Int) ≤ 30)) (vif (decide (t ≥ 0)) (Post (.bool (decide (t ≤ 157766400000)))) (Post (.bool false))) (Post (.bool false))) := by kernel_rfl
def liQ (k : Nat) (Q : VQ) : VQ := fun e vt m => match e with
 | .normal => swpO Tryz.prog [] (fun _ => []) k (liO ao nn cap L sl) (liZ Tryz.prog) Q vt m
 | e => Q e vt m
set_option maxRecDepth 100000 in
theorem li_start (k : Nat) (t : Int) (Q : VQ) :
    swpO Tryz.prog [] (fun _ => []) k (liO ao nn cap L sl) (bodyOf Tryz.prog 6) Q ([.agg #[.int .i64 t, .slice ao nn cap]] ++ List.replicate ((fnOf Tryz.prog 6).ntmps - 1) undef) [[]] =
      (ptr 1 = ptr 1 ∧ (∃ x, some [Value.int .i64 t, .slice ao nn cap] = some [x, .slice ao nn cap]) ∧ 35 = 35 ∧ 35 = 35 ∧ (ptrOk 2 sl && true) = true ∧ ∀ d, swpO Tryz.prog [] (fun _ => []) k (liO ao nn cap L sl) (liB Tryz.prog) (liQ ao nn cap L sl k Q) (liF 0 nn 0 sl d) [[], [.int .i64 t, .slice ao nn cap]]) := by kernel_rfl
end
theorem lgE_sound {w0 : World} {ds : List Deferred} {bl0 : Bl} {K : List Value → Xm → Prop} {Q : Exit → Act → World → Prop} {bl : Bl} {vt : List Value} {m : Xm} {a : Act} {w : World} {B : Nat} {ao : Option Addr} {n cap : Nat} {L : Nat → Int × ByteArray} {sl : Value} {ops : Array Oper} {id : Nat} {o0 o1 o2 : Oper} {tP tS tE : TypeId} (hb0 : bl0[0]? = some (some B)) (hr : Recs w0 B ao n cap L sl) (hfl : fieldV Tryz.prog tP 1 = some 1) (hag : qrun Tryz.prog (isAgg tS) = some false) (hu : Tryz.prog.underlying tS = some (.slice tE)) (hsz : ops.size = 15) (hnew : ops.all (fun o => !isNew o) = true)
    (g0 : ops[0]? = some o0) (g1 : ops[1]? = some o1) (g2 : ops[2]? = some o2) (h0 : o0.dst = some 21 ∧ o0.op = .fieldAddr tP (.tmp 1) 1 ∧ o0.guard = none) (h1 : o1.dst = some 22 ∧ o1.op = .load tS (.tmp 21) ∧ o1.guard = none) (h2 : o2.dst = some 23 ∧ o2.op = .call { callee := .builtin .len, args := #[.tmp 22], argTypes := #[tS] } ∧ o2.guard = none)
    (h : lgE ao n cap sl ops K vt m) (r : Rl [] w0 ds bl0 bl vt m a w) (hK : ∀ bl vt m a w, K vt m → Rl [] w0 ds bl0 bl vt m a w → Q .normal a w) : (Code.region id ops false).wp Tryz.prog Q a w := by
 have hlen := r.F.len
 obtain ⟨hp, ⟨x0, hm⟩, hlt, hk⟩ := h
 rw [hlt] at hlen
 have hp' := r.F.rv 1
 rw [hp] at hp'
 obtain ⟨C, hC, E1⟩ := hp'
 have E1 : a.eval (.tmp 1) = .pointer (some ⟨C, 0, none⟩) := E1
 obtain ⟨row, e0, A0⟩ := r.R.arr 1 C hC
 have e0 : m[1]? = some row := e0
 rw [hm] at e0
 cases e0
 have hld : loadV Tryz.prog tS [x0, .slice ao n cap] 1 = some (.slice ao n cap) := by unfold loadV; rw [hag]; rfl
 have rld := loadV_run hld A0
 have rfl1 := fieldV_run hfl C 0 w
 have hrv := hr.rv bl (r.le 0 B hb0)
 have r0 := run_under hu w
 have F := r.F
 have D := r.defers
 refine wp_region ?_
 rw [hsz]
 refine ops_valS (v := .nilIface) (v' := (.pointer (some ⟨C, 1, none⟩))) (w' := w) g0 h0.1 (unguarded h0.2.2) (by simp [execOp, h0.2.1, E1, rfl1]) F D hlen (by decide) (rfl) fun a F D hlen E21 X => ?_
 refine ops_valS (v := sl) (v' := (.slice ao n cap)) (w' := w) g1 h1.1 (unguarded h1.2.2) (by simp [execOp, h1.2.1, E21, Instr.loadAt, Instr.sureAddr, rld]) F D hlen (by decide) (hrv) fun a F D hlen E22 X => ?_
 refine ops_valS (v := .int .i64 (n : Nat)) (v' := (.int .i64 (n : Nat))) (w' := w) g2 h2.1 (unguarded h2.2.2) (by simp [execOp, h2.2.1, resolve, invoke, builtin, E22, Builtin.len_, r0, goInt]) F D hlen (by decide) (rfl) fun a F D hlen E23 X => ?_
 refine vseq_sound (base := 0) (rs := m) (ln := m.length) (bl0 := bl0) (tbl := []) (fun bl' vt' m' a' w' hk F R hle hl hml hd => hK bl' vt' m' a' w' hk ⟨F, R, hle, hl.trans hml.symm, hd⟩) [3, 4, 5, 6, 7, 8, 9, 10, 11, 12, 13, 14] bl _ m _ w (by decide) hk F r.R (fun _ _ => rfl) ?_ r.le r.len rfl D
 intro i _ o ho hn
 have := Array.all_eq_true_iff_forall_mem.1 hnew o (Array.mem_of_getElem? ho)
 rw [hn] at this
 cases this
section
variable (ao : Option Addr) (nn cap : Nat) (L : Nat → Int × ByteArray) (sl : Value)
set_option maxRecDepth 100000 in
theorem li_ov {B : Nat} {w : World} (hr : Recs w B ao nn cap L sl) : OvOk Tryz.prog (liO ao nn cap L sl) [] w [] [some B] (bodyOf Tryz.prog 6) := by
 refine ovOk_by (ns := [(2, #[(opOf Tryz.prog 6 2 0), (opOf Tryz.prog 6 2 1), (opOf Tryz.prog 6 2 2), (opOf Tryz.prog 6 2 3)], false), (4, #[(opOf Tryz.prog 6 4 0), (opOf Tryz.prog 6 4 1), (opOf Tryz.prog 6 4 2), (opOf Tryz.prog 6 4 3)], false), (8, opsOf Tryz.prog 6 8, false), (9, opsOf Tryz.prog 6 9, false)]) (by kernel_rfl) ?_
 intro r hr'
 rcases List.mem_cons.1 hr' with rfl | hr'
 ·intro R hR K Q bl vt m a w1 h r hK
  cases hR
  refine eSl_sound (by decide) (by decide) (by decide) (by decide) (B := B) (K := forget liK 35 2 K) (tP := 24) (tS := 22) (tE := 52) rfl hr (by kernel_rfl) (by kernel_rfl) (by kernel_rfl) rfl ⟨by kernel_rfl, by kernel_rfl, by kernel_rfl⟩ ⟨by kernel_rfl, by kernel_rfl, by kernel_rfl⟩ ⟨by kernel_rfl, by kernel_rfl, by kernel_rfl⟩ ⟨by kernel_rfl, by kernel_rfl, by kernel_rfl⟩ h r (fun bl vt m a w hk hrl => ?_)
  obtain ⟨bl', vt', m', k1, k2⟩ := hrl.cut (show 1 ≤ 2 by decide) hk
  exact hK bl' vt' m' a w k1 k2
 rcases List.mem_cons.1 hr' with rfl | hr'
 ·intro R hR K Q bl vt m a w1 h r hK
  cases hR
  exact eRec_sound (by decide) (by decide) (by decide) (by decide) (B := B) (tS := 22) (tR := 52) (z := .agg #[.int .i64 0, .string ⟨#[]⟩]) rfl hr (by kernel_rfl) (by kernel_rfl) (by kernel_rfl) (by kernel_rfl) rfl rfl ⟨by kernel_rfl, by kernel_rfl, by kernel_rfl⟩ ⟨by kernel_rfl, by kernel_rfl, by kernel_rfl⟩ ⟨by kernel_rfl, by kernel_rfl, by kernel_rfl⟩ ⟨by kernel_rfl, by kernel_rfl, by kernel_rfl⟩ h r hK
 rcases List.mem_cons.1 hr' with rfl | hr'
 ·intro R hR K Q bl vt m a w1 h r hK
  cases hR
  exact cutBy_sound xmixA (show 1 ≤ 2 by decide) h r hK
 rcases List.mem_cons.1 hr' with rfl | hr'
 ·intro R hR K Q bl vt m a w1 h r hK
  cases hR
  exact lgE_sound (B := B) (o0 := (opOf Tryz.prog 6 9 0)) (o1 := (opOf Tryz.prog 6 9 1)) (o2 := (opOf Tryz.prog 6 9 2)) (tP := 24) (tS := 22) (tE := 52) rfl hr (by kernel_rfl) (by kernel_rfl) (by kernel_rfl) (by kernel_rfl) (by kernel_rfl) (by kernel_rfl) (by kernel_rfl) (by kernel_rfl) ⟨by kernel_rfl, by kernel_rfl, by kernel_rfl⟩ ⟨by kernel_rfl, by kernel_rfl, by kernel_rfl⟩ ⟨by kernel_rfl, by kernel_rfl, by kernel_rfl⟩ h r hK
 ·cases hr'
end
theorem ptrOk_le {sl : Value} (h : ptrOk 1 sl = true) {k : Nat} (hk : 1 ≤ k) : ptrOk k sl = true := by
 match sl, h with
 | .pointer (some a), hp => exact decide_eq_true (by have := of_decide_eq_true hp; omega)
 | .slice (some a) _ _, hp => exact decide_eq_true (by have := of_decide_eq_true hp; omega)
 | .slice none _ _, _ => rfl
 | .pointer none, _ => rfl
 | .bool _, _ => rfl
 | .int _ _, _ => rfl
 | .float _ _, _ => rfl
 | .complex _ _ _, _ => rfl
 | .string _, _ => rfl
 | .map _, _ => rfl
 | .chan _, _ => rfl
 | .func _ _ _, _ => rfl
 | .nilFunc, _ => rfl
 | .nilIface, _ => rfl
 | .iface _ _, _ => rfl
 | .agg _, _ => rfl
 | .tuple _, _ => rfl
def LiR (P : Program) (fn : Func) (nn : Nat) (L : Nat → Int × ByteArray) (sl : Value) (Post : Value → Prop) (G : VQ → List Value → Xm → Prop) : Prop := ∀ (s n i : Int) (d : Nat → Value) (pl : List Value) (Q : VQ), G (retOf P fn Post Q) (liF s n i sl d) [[], pl] =
      vif (decide (i < n)) ((0 ≤ i ∧ i.toNat < nn) ∧ sl = sl ∧ 2 = 2 ∧ 35 = 35 ∧ vif (decide (IntKind.i64.wrap (s + ((L i.toNat).2.size : Nat)) > 3000)) (Post (.bool false)) (35 = 35 ∧ (ptrOk 2 sl && true) = true ∧ ∀ d, Q .normal (liF (IntKind.i64.wrap (s + ((L i.toNat).2.size : Nat))) n (IntKind.i64.wrap (i + 1)) sl d) [[], pl]))
      (Q (.exit 0) (liE s n i sl d) [[], pl])
theorem loop_ret {P : Program} {fn : Func} {Post : Value → Prop} {k : Nat} {G : VQ → List Value → Xm → Prop} {Q : VQ} {vt : List Value} {m : Xm} : loopN (k + 1) G (retOf P fn Post Q) vt m = G (retOf P fn Post (fun e vt' m' => match e with
    | .normal => loopN k G (retOf P fn Post Q) vt' m'
    | e => Q e vt' m')) vt m := by
 rw [loopN]
 congr 1
 funext e vt' m'
 cases e <;> rfl
theorem li_loop {P : Program} {fn : Func} {nn : Nat} {L : Nat → Int × ByteArray} {sl : Value} {Post : Value → Prop} {G : VQ → List Value → Xm → Prop} (hG : LiR P fn nn L sl Post G) (hn : nn ≤ 1000000000000000) (hz : ∀ i, i < nn → (L i).2.size ≤ 1000000000000000) (hp : ptrOk 1 sl = true) (hf : Post (.bool false)) (Q : VQ) (pl : List Value)
    (hQ : ∀ s i d, s + 0 ≤ 3000 → remS L 0 nn = s → Q (.exit 0) (liE s nn i sl d) [[], pl]) (k : Nat) : ∀ (i : Nat), i + k = nn → ∀ (s : Nat) (d : Nat → Value), s ≤ 3000 → remS L 0 nn = s + remS L i k → loopN (k + 1) G (retOf P fn Post Q) (liF s nn i sl d) [[], pl] := by
 induction k with
 | zero =>
  intro i e s d hs hr
  rw [loop_ret, hG, decide_eq_false (by omega)]
  exact hQ s i d (by omega) hr
 | succ k ih =>
  intro i e s d hs hr
  have hr : remS L 0 nn = s + ((L i).2.size + remS L (i + 1) k) := hr
  have hzi := hz i (by omega)
  rw [loop_ret, hG, decide_eq_true (by omega), Int.toNat_natCast]
  have hw : IntKind.i64.wrap ((i : Int) + 1) = ((i + 1 : Nat) : Int) := by
   rw [IntKind.wrap_i64]
   omega
  have hv : IntKind.i64.wrap ((s : Int) + ((L i).2.size : Nat)) = ((s + (L i).2.size : Nat) : Int) := by
   rw [IntKind.wrap_i64]
   omega
  rw [hw, hv]
  refine ⟨⟨by omega, by omega⟩, rfl, rfl, rfl, ?_⟩
  by_cases hg : ((s + (L i).2.size : Nat) : Int) > 3000
  ·rw [decide_eq_true hg]
   exact hf
  ·rw [decide_eq_false hg]
   refine ⟨rfl, by rw [ptrOk_le hp (by decide)]; rfl, fun d => ?_⟩
   exact ih (i + 1) (by omega) (s + (L i).2.size) d (by omega) (by omega)
set_option maxRecDepth 100000 in
theorem light_at {B : Nat} {ao : Option Addr} {nn cap : Nat} {L : Nat → Int × ByteArray} {sl : Value} (t : Int) (w : World) (hw : GW w) (hr : Recs w B ao nn cap L sl) (hn : nn ≤ 1000000000000000) (hz : ∀ i, i < nn → (L i).2.size ≤ 1000000000000000) :
    Calls Tryz.prog 6 #[.agg #[.int .i64 t, .slice ao nn cap]] w fun e w' => (∃ b, e = .returned (.bool b) ∧ (b = true → nn ≤ 30 ∧ remS L 0 nn ≤ 3000)) ∧ Below w.heap.size w w' := by
 have R : RW [] w [some B] [[]] w := by
  refine ⟨fun i C hi => ?_, fun i j C hi hj => ?_, fun i C hi => ?_, rfl, rfl, rfl, Nat.le_refl _, fun _ _ _ => rfl, hw, fun b hb => by cases hb⟩
  ·match i, hi with
   | 0, hi => cases hi; exact ⟨[], rfl, fun i h => absurd h (Nat.not_lt_zero i), fun i h => absurd h (Nat.not_lt_zero i), hr.lies⟩
  ·match i, j, hi, hj with
   | 0, 0, _, _ => rfl
  ·match i, hi with
   | 0, _ => exact .inr (.inr rfl)
 have key : ∃ Post : Value → Prop, Post = fun v => ∃ b, v = .bool b ∧ (b = true → nn ≤ 30 ∧ remS L 0 nn ≤ 3000) := ⟨_, rfl⟩
 obtain ⟨Post, hPost⟩ := key
 have hf : Post (.bool false) := by rw [hPost]; exact ⟨false, rfl, fun h => by cases h⟩
 refine Calls.mono (calls_sxO (tbl := []) (dirty := fun _ => []) (n := nn + 1) (ov := liO ao nn cap L sl) xmixA (f := 6) (fn := fnOf Tryz.prog 6) (c := bodyOf Tryz.prog 6) (by kernel_rfl) (by kernel_rfl) (vargs := [.agg #[.int .i64 t, .slice ao nn cap]]) R rfl rfl (fun i => ?_) (Post := fun v _ => Post v) (li_ov ao nn cap L sl hr) ?_) ?_
 ·match i with
  | 0 => rfl
  | _ + 1 => rfl
 ·refine Eq.mpr (li_start ao nn cap L sl (nn + 1) t _) ⟨rfl, ⟨_, rfl⟩, rfl, rfl, (Bool.and_true _).trans (ptrOk_le hr.ok (by decide)), fun d => ?_⟩
  have hl := li_loop (P := Tryz.prog) (fn := fnOf Tryz.prog 6) (nn := nn) (L := L) (sl := sl) (Post := Post) (fun s n i d pl Q => li_round ao nn cap L sl (nn + 1) s n i d pl Post Q) hn hz hr.ok hf
   (fun e vt m => match e with
    | .exit id' => if id' = 0 then liQ ao nn cap L sl (nn + 1) (retQ Tryz.prog (fnOf Tryz.prog 6) (fun v _ => Post v)) .normal vt m else liQ ao nn cap L sl (nn + 1) (retQ Tryz.prog (fnOf Tryz.prog 6) (fun v _ => Post v)) (.exit id') vt m
    | e => liQ ao nn cap L sl (nn + 1) (retQ Tryz.prog (fnOf Tryz.prog 6) (fun v _ => Post v)) e vt m) [.int .i64 t, .slice ao nn cap] (fun s i d hs hrm => ?_) nn 0 (by omega) 0 d (by omega) (by omega)
  ·have e : retOf Tryz.prog (fnOf Tryz.prog 6) Post (fun e vt m => match e with
    | .exit id' => if id' = 0 then liQ ao nn cap L sl (nn + 1) (retQ Tryz.prog (fnOf Tryz.prog 6) (fun v _ => Post v)) .normal vt m else liQ ao nn cap L sl (nn + 1) (retQ Tryz.prog (fnOf Tryz.prog 6) (fun v _ => Post v)) (.exit id') vt m
    | e => liQ ao nn cap L sl (nn + 1) (retQ Tryz.prog (fnOf Tryz.prog 6) (fun v _ => Post v)) e vt m) = (fun e vt m => match e with
    | .exit id' => if id' = 0 then liQ ao nn cap L sl (nn + 1) (retQ Tryz.prog (fnOf Tryz.prog 6) (fun v _ => Post v)) .normal vt m else liQ ao nn cap L sl (nn + 1) (retQ Tryz.prog (fnOf Tryz.prog 6) (fun v _ => Post v)) (.exit id') vt m
    | e => liQ ao nn cap L sl (nn + 1) (retQ Tryz.prog (fnOf Tryz.prog 6) (fun v _ => Post v)) e vt m) := by
    funext e vt m
    cases e <;> rfl
   rw [e] at hl
   exact hl
  ·refine Eq.mpr (li_end ao nn cap L sl (nn + 1) s nn i t d Post) ⟨rfl, ⟨_, rfl⟩, rfl, ?_⟩
   by_cases h30 : ((nn : Nat) : Int) ≤ 30
   ·rw [decide_eq_true h30]
    by_cases ht : t ≥ 0
    ·rw [decide_eq_true ht]
     show Post _
     rw [hPost]
     exact ⟨_, rfl, fun _ => ⟨by omega, by omega⟩⟩
    ·rw [decide_eq_false ht]
     exact hf
   ·rw [decide_eq_false h30]
    exact hf
 ·rintro e w' ⟨v, bl', m2, rfl, hv, R', _⟩
  rw [hPost] at hv
  obtain ⟨b, rfl, hb⟩ := hv
  exact ⟨⟨b, rfl, hb⟩, R'.os, R'.tape, R'.output, R'.size, fun i hi => R'.block i hi (by simp)⟩
theorem Recs.same {w w' : World} {B : Nat} {ao : Option Addr} {n cap : Nat} {L : Nat → Int × ByteArray} {sl : Value} (h : Recs w B ao n cap L sl) (hb : Below w.heap.size w w') : Recs w' B ao n cap L sl := by
 have e := hb.block B h.lies
 exact ⟨h.rv, h.ok, Nat.lt_of_lt_of_le h.lies hb.size, h.idx, fun i hi => let ⟨o, h1, h2, h3⟩ := h.at_ i hi; ⟨o, h1, by rw [cell_old e]; exact h2, by rw [cell_old e]; exact h3⟩⟩
end Go.Proofs.YteeohbiaclojaaaGreatDoor
namespace Go.Proofs.YteeohbiaclojaaaGreatDoor
def sumBytes (h : List UInt8) : List UInt8 := [UInt8.ofNat (sumU h / 256), UInt8.ofNat (sumU h % 256)]
theorem wrapL_sum (k : UInt8) (d : List UInt8) : wrapL k d = 165 :: (wrapHead k d ++ sumBytes (wrapHead k d)) := by
 simp [wrapL, sumBytes]
theorem sum_of_bytes {h g : List UInt8} (e : sumBytes h = sumBytes g) : sumU h = sumU g := by
 have a := sumU_lt h
 have b := sumU_lt g
 simp only [sumBytes, List.cons.injEq, and_true] at e
 have e1 := congrArg UInt8.toNat e.1
 have e2 := congrArg UInt8.toNat e.2
 rw [ofNat_toNat (by omega), ofNat_toNat (by omega)] at e1 e2
 omega
theorem sumU_turned {h : List UInt8} {j : Nat} {y : UInt8} (hj : j < h.length) (hy : y ≠ h[j]) : sumU (h.set j y) ≠ sumU h := by
 have e : h = h.take j ++ h[j] :: h.drop (j + 1) := by rw [← List.drop_eq_getElem_cons hj, List.take_append_drop]
 have e' : h.set j y = h.take j ++ y :: h.drop (j + 1) := by rw [List.set_eq_take_append_cons_drop, if_pos hj]
 have bd (l : List UInt8) : ∀ x ∈ l.map UInt8.toNat, x < 256 := by
  intro x hx
  obtain ⟨u, _, rfl⟩ := List.mem_map.1 hx
  exact u.toNat_lt
 rw [e']
 conv => rhs; rw [e]
 unfold sumU
 rw [List.map_append, List.map_append, List.map_cons, List.map_cons]
 exact crcOf_turned (bd _) (bd _) y.toNat_lt (h[j]).toNat_lt (by decide) (fun x => hy (UInt8.toNat_inj.1 x))
theorem turned {k k' y : UInt8} {d d' : List UInt8} {j : Nat} (hd : d'.length = d.length) (hj : j < (wrapL k d).length) (hy : y ≠ (wrapL k d)[j]) : (wrapL k d).set j y ≠ wrapL k' d' := by
 intro e
 have hl : (wrapHead k' d').length = (wrapHead k d).length := by simp [wrapHead, hd]
 cases j with
 | zero =>
  simp only [wrapL_sum, List.set_cons_zero, List.cons.injEq] at e
  exact hy (by rw [e.1]; simp [wrapL_sum])
 | succ j =>
  simp only [wrapL_sum, List.set_cons_succ, List.cons.injEq, true_and] at e
  have hj' : j < (wrapHead k d ++ sumBytes (wrapHead k d)).length := by simpa [wrapL_sum] using hj
  have hy' : y ≠ (wrapHead k d ++ sumBytes (wrapHead k d))[j] := by
   intro h
   apply hy
   rw [h]
   simp [wrapL_sum]
  by_cases c : j < (wrapHead k d).length
  ·rw [List.set_append_left _ _ c] at e
   have e1 := List.append_inj e (by rw [List.length_set, hl])
   have e2 := sum_of_bytes e1.2
   rw [← e1.1] at e2
   rw [List.getElem_append_left c] at hy'
   exact sumU_turned c hy' e2.symm
  ·rw [List.set_append_right _ _ (by omega)] at e
   have e1 := List.append_inj e hl.symm
   have e2 : (sumBytes (wrapHead k d)).set (j - (wrapHead k d).length) y = sumBytes (wrapHead k d) := by rw [e1.2, e1.1]
   rw [List.getElem_append_right (by omega)] at hy'
   have hb : j - (wrapHead k d).length < (sumBytes (wrapHead k d)).length := by rw [List.length_append] at hj'; omega
   have := List.getElem_set_self (l := sumBytes (wrapHead k d)) (a := y) (i := j - (wrapHead k d).length) (by rw [List.length_set]; exact hb)
   simp only [e2] at this
   exact hy' this.symm
theorem look_turned {k y : UInt8} {d : List UInt8} {j n : Nat} (hj : j < (wrapL k d).length) (hy : y ≠ (wrapL k d)[j]) (hl : look ((wrapL k d).set j y) = some (n + 1)) (hn : n + 5 = (wrapL k d).length) : False := by
 have e := wrap_look hl
 have h5 := (look_parts hl).2.2.2.1
 rw [List.take_of_length_le (by rw [List.length_set]; omega)] at e
 refine turned ?_ hj hy e
 rw [List.length_take, List.length_drop, List.length_set]
 rw [wrapL_length] at hn ⊢
 omega
end Go.Proofs.YteeohbiaclojaaaGreatDoor
namespace Go.Proofs.YteeohbiaclojaaaGreatDoor
open Go.RowKit
theorem look_skip {x : UInt8} {l : List UInt8} (h : x ≠ 165) : look (x :: l) = some 0 := by
 refine look0 (by simp) ?_
 intro e
 exact h (UInt8.toNat_inj.1 e)
theorem scan_bare : ∀ (f : Nat) (l : List UInt8), l.length ≤ f → (∀ x ∈ l, x ≠ 165) → scanU f l = ([], [], l.length)
 | f, [], _, _ => scanU_nil f
 | 0, _ :: _, h, _ => by simp at h
 | f + 1, x :: l, h, hx => by
  have ih := scan_bare f l (by simpa using h) (fun y hy => hx y (List.mem_cons_of_mem _ hy))
  rw [scanU_skip (look_skip (hx x List.mem_cons_self)), List.drop_succ_cons, List.drop_zero, ih]
  rfl
theorem spoilt_look {k y : UInt8} {d : List UInt8} {j : Nat} (hd : d.length ≤ 64) (hj : j < (wrapL k d).length) (hy : y ≠ (wrapL k d)[j]) (h2 : j ≠ 2) : look ((wrapL k d).set j y) = some 0 := by
 have hl := wrapL_length k d
 cases e : look ((wrapL k d).set j y) with
 | some n =>
  cases n with
  | zero => rfl
  | succ n =>
   obtain ⟨_, hn, _, _, _⟩ := look_parts e
   have h3 : ((wrapL k d).set j y).getD 2 0 = UInt8.ofNat d.length := by
    rw [List.getD_eq_getElem?_getD, List.getElem?_set_ne h2, wrapL_parts]
    rfl
   rw [h3, ofNat_toNat (by omega)] at hn
   exact (look_turned hj hy e (by omega)).elim
 | none =>
  exfalso
  have hs : ((wrapL k d).set j y).length = d.length + 5 := by rw [List.length_set, hl]
  have h3 : (((wrapL k d).set j y).getD 2 0).toNat = d.length := by
   rw [List.getD_eq_getElem?_getD, List.getElem?_set_ne h2, wrapL_parts]
   exact ofNat_toNat (by omega)
  unfold look at e
  rw [if_neg (by omega)] at e
  split at e
  ·cases e
  rw [if_neg (by omega), h3, if_neg (by omega), if_neg (by omega)] at e
  split at e <;> cases e
theorem spoilt_scan {k y : UInt8} {d : List UInt8} {j : Nat} (hd : d.length ≤ 64) (hj : j < (wrapL k d).length) (hy : y ≠ (wrapL k d)[j]) (h2 : j ≠ 2) (hm : ∀ x ∈ ((wrapL k d).set j y).drop 1, x ≠ 165) : scanL ((wrapL k d).set j y) = ([], [], d.length + 5) := by
 have hl := wrapL_length k d
 have hs : ((wrapL k d).set j y).length = d.length + 4 + 1 := by rw [List.length_set, hl]
 unfold scanL
 rw [hs, scanU_skip (spoilt_look hd hj hy h2), scan_bare _ _ (by rw [List.length_drop]; omega) hm, List.length_drop, hs]
 rfl
def setR (c : Cra) (r : Int) : Cra := (c.1, c.2.1, c.2.2.1, c.2.2.2.1, c.2.2.2.2.1, c.2.2.2.2.2.1, c.2.2.2.2.2.2.1, c.2.2.2.2.2.2.2.1, (c.2.2.2.2.2.2.2.2.1, c.2.2.2.2.2.2.2.2.2.1, r, ()))
theorem goW_rej (F : Fs) (c : Cra) (x : Hea) (t r : Int) : (goW F (setR c r) x t).1 = setR (goW F c x t).1 r := by
 unfold goW
 by_cases h : decide (c.2.2.2.1.1 = 2) = true
 ·rw [if_pos h, if_pos (show decide ((setR c r).2.2.2.1.1 = 2) = true from h)]
  by_cases k : (!(decW F c t x (skyW F c t)).1) = true
  ·rw [if_pos k, if_pos (show (!(decW F (setR c r) t x (skyW F (setR c r) t)).1) = true from k)]
   rfl
  ·rw [if_neg k, if_neg (show ¬ (!(decW F (setR c r) t x (skyW F (setR c r) t)).1) = true from k)]
   rfl
 ·rw [if_neg h, if_neg (show ¬ decide ((setR c r).2.2.2.1.1 = 2) = true from h)]
  rfl
theorem take_bare (F : Fs) {c : Cra} (hc : c.2.2.1 = noBytes) (t : Int) (b : ByteArray) (hb : (scanL b.data.toList).1 = [] ∧ (scanL b.data.toList).2.1 = []) : takeW F c t b = (if ((scanL b.data.toList).2.2 : Nat) > (0 : Int) then setR (leftC c noBytes) (rejW c.2.2.2.2.2.2.2.2.2.2.1) else leftC c noBytes, zeroHea) := by
 have e : (c.2.2.1 ++ b).data.toList = b.data.toList := by
  rw [hc]
  show (noBytes ++ b).data.toList = _
  rw [add_list]
  rfl
 unfold takeW begW
 rw [e, hb.1]
 have hr : restOf b.data.toList = noBytes := by
  unfold restOf
  rw [hb.2]
  rfl
 rw [hr]
 rfl
theorem step_bare {F : Fs} (hF : FsIs F) {c : Cra} (hc : c.2.2.1 = noBytes) {t : Int} (hs : stays c t = false) (b : ByteArray) (hb : (scanL b.data.toList).1 = [] ∧ (scanL b.data.toList).2.1 = []) (h0 : 0 < (scanL b.data.toList).2.2) :
    (stepF F c t b).1 = setR (stepF F c t noBytes).1 (rejW c.2.2.2.2.2.2.2.2.2.2.1) ∧ (stepF F c t noBytes).1.2.2.2.2.2.2.2.2.2.2.1 = c.2.2.2.2.2.2.2.2.2.2.1 := by
 rw [(stays_no hF hs b).1, (stays_no hF hs noBytes).1]
 have h1 := take_bare F hc t b hb
 have h2 := take_bare F hc t noBytes ⟨rfl, rfl⟩
 rw [if_pos (by omega)] at h1
 rw [if_neg (by show ¬ ((0 : Nat) : Int) > 0; decide)] at h2
 unfold stepR
 dsimp only
 rw [h1, h2]
 dsimp only
 refine ⟨goW_rej F (setDri (leftC c noBytes) (driftW F (leftC c noBytes).2.2.2.2.2.2.1 zeroHea)) zeroHea t _, ?_⟩
 obtain ⟨g, s, e, _, _⟩ := goW_is F (setDri (leftC c noBytes) (driftW F (leftC c noBytes).2.2.2.2.2.2.1 zeroHea)) zeroHea t
 rw [e]
 rfl
end Go.Proofs.YteeohbiaclojaaaGreatDoor
namespace Go.Proofs.YteeohbiaclojaaaGreatDoor
open Go.RowKit
theorem wp_code {P : Program} {c c' : Code} {Q : Exit → Act → World → Prop} {a : Act} {w : World} (h : c = c') (H : c'.wp P Q a w) : c.wp P Q a w := h ▸ H
section
variable {P : Program} {tbl : List (Ct P)} {bs : List Nat} {w0 : World} {ds : List Deferred} {dirty : Nat → List Nat} {n : Nat} {bl0 : Bl} {ov : Ov}
theorem stands_ret {fn : Func} {Post : Value → Prop} {R : Ending → World → Prop} (h : ∀ v bl m w, Post v → RW bs w0 bl m w → R (.returned v) w) : Stands bs w0 [] bl0 (retQ P fn (fun v _ => Post v)) (bodyPost P fn R) := by
 intro e bl' vt' m' a' w' h' r'
 cases e with
 | normal =>
  simp only [retQ] at h'
  split at h'
  ·rename_i v hv
   exact ⟨r'.defers, v, resV_run r'.F r'.R hv, h v bl' m' w' h' r'.R⟩
  ·exact h'.elim
 | ret =>
  simp only [retQ] at h'
  split at h'
  ·rename_i v hv
   exact ⟨r'.defers, v, resV_run r'.F r'.R hv, h v bl' m' w' h' r'.R⟩
  ·exact h'.elim
 | exit id => exact h'.elim
 | goto l => exact h'.elim
 | panic ch => exact h'.elim
 | outgrown => exact h'.elim
theorem stands_fn {fn fn' : Func} (e : fn = fn') {Post : Value → Prop} {R : Ending → World → Prop} (h : ∀ v bl m w, Post v → RW bs w0 bl m w → R (.returned v) w) : Stands bs w0 [] bl0 (retQ P fn (fun v _ => Post v)) (bodyPost P fn' R) := e ▸ stands_ret h
end
def Bare (n : Nat) (f : Nat → UInt8) : Prop := ∀ j, 1 ≤ j → j < n → ((f j).toNat : Int) ≠ 165
structure Byt (w0 : World) (B n : Nat) (f : Nat → UInt8) : Prop where
 lies : B < w0.heap.size
 at_ : ∀ j, j < n → w0.cell? ⟨B, j, none⟩ = some (.int .u8 ((f j).toNat : Nat))
theorem load_one {P : Program} {t : TypeId} {B o : Nat} {w : World} {x : Value} (ha : qrun P (isAgg t) = some false) (h0 : w.cell? ⟨B, o, none⟩ = some x) : (loadVar t ⟨B, o, none⟩).run P w = .ok x w := by
 have r1 := qrun_run _ ha w
 unfold loadVar
 simp [Sem.run_bind, r1, load, Sem.run, h0]
def eByt (n cp : Nat) (f : Nat → UInt8) (K : List Value → Xm → Prop) (vt : List Value) (m : Xm) : Prop :=
 match vt.getD 11 undef with
 | .int .i64 i => (0 ≤ i ∧ i.toNat < n) ∧ vt.getD 9 undef = .slice (some ⟨2, 0, none⟩) n cp ∧ vt.length = 142 ∧ K (((((vt.set 68 .nilIface).set 69 .nilIface).set 70 .nilIface).set 71 .nilIface).set 72 (.bool (decide (((f i.toNat).toNat : Int) = 165)))) m
 | _ => False
theorem eByt_sound {bs : List Nat} {w0 : World} {ds : List Deferred} {bl0 : Bl} {K : List Value → Xm → Prop} {Q : Exit → Act → World → Prop} {bl : Bl} {vt : List Value} {m : Xm} {a : Act} {w : World} {B n cp : Nat} {f : Nat → UInt8} {ops : Array Oper} {id : Nat} {o0 o1 o2 o3 o4 : Oper} {tS tB : TypeId} (hb0 : bl0[2]? = some (some B)) (hr : Byt w0 B n f) (hbs : B ∉ bs) (hu : Tryz.prog.underlying tS = some (.slice tB)) (hz : qrun Tryz.prog (sizeOf tB) = some 1) (ha : qrun Tryz.prog (isAgg tB) = some false) (ho : ops = #[o0, o1, o2, o3, o4])
    (h0 : o0.dst = some 68 ∧ o0.op = .move (.tmp 9) ∧ o0.guard = none) (h1 : o1.dst = some 69 ∧ o1.op = .move (.tmp 11) ∧ o1.guard = none) (h2 : o2.dst = some 70 ∧ o2.op = .indexAddr tS (.tmp 68) (.tmp 69) ∧ o2.guard = none) (h3 : o3.dst = some 71 ∧ o3.op = .load tB (.tmp 70) ∧ o3.guard = none) (h4 : o4.dst = some 72 ∧ o4.op = .binOp .eql tB (.tmp 71) (.const (.int .u8 165)) tB ∧ o4.guard = none)
    (h : eByt n cp f K vt m) (r : Rl bs w0 ds bl0 bl vt m a w) (hK : ∀ bl vt m a w, K vt m → Rl bs w0 ds bl0 bl vt m a w → Q .normal a w) : (Code.region id ops false).wp Tryz.prog Q a w := by
 subst ho
 have hlen := r.F.len
 unfold eByt at h
 split at h
 case h_2 => exact h.elim
 rename_i i hi
 obtain ⟨⟨hi0, hil⟩, hsl, hlt, hk⟩ := h
 rw [hlt] at hlen
 have hiv := r.F.rv 11
 rw [hi] at hiv
 have E11 : a.eval (.tmp 11) = .int .i64 i := hiv
 have hsv := r.F.rv 9
 rw [hsl] at hsv
 obtain ⟨C, hC, E9⟩ := hsv
 have hC : bl[2]? = some (some C) := hC
 rw [r.le 2 B hb0] at hC
 cases hC
 have E9 : a.eval (.tmp 9) = .slice (some ⟨B, 0, none⟩) n cp := E9
 have c0 := hr.at_ i.toNat hil
 rw [← cell_old (r.R.block B hr.lies hbs)] at c0
 have rld := load_one (P := Tryz.prog) ha c0
 have F := r.F
 have D := r.defers
 refine wp_region ?_
 have hil' : i < (n : Int) := by omega
 have r0 := run_under hu w
 have r1 := qrun_run _ hz w
 refine ops_valS (v := .nilIface) (v' := (.slice (some ⟨B, 0, none⟩) n cp)) (w' := w) rfl h0.1 (unguarded h0.2.2) (by simp [execOp, h0.2.1, E9]) F D hlen (by decide) (rfl) fun a F D hlen E68 X => ?_
 have E11 := (X 11 (by decide)).trans E11
 refine ops_valS (v := .nilIface) (v' := (.int .i64 i)) (w' := w) rfl h1.1 (unguarded h1.2.2) (by simp [execOp, h1.2.1, E11]) F D hlen (by decide) (rfl) fun a F D hlen E69 X => ?_
 have E68 := (X 68 (by decide)).trans E68
 refine ops_valS (v := .nilIface) (v' := (.pointer (some ⟨B, i.toNat, none⟩))) (w' := w) rfl h2.1 (unguarded h2.2.2) (by simp [execOp, h2.2.1, E68, E69, Instr.indexAt, asIntOf, r0, r1, hi0, hil', add_is, Sem.run_bind]) F D hlen (by decide) (rfl) fun a F D hlen E70 X => ?_
 refine ops_valS (v := .nilIface) (v' := (.int .u8 ((f i.toNat).toNat : Nat))) (w' := w) rfl h3.1 (unguarded h3.2.2) (by simp [execOp, h3.2.1, E70, Instr.loadAt, Instr.sureAddr, rld]) F D hlen (by decide) (rfl) fun a F D hlen E71 X => ?_
 refine ops_valS (v := .bool (decide (((f i.toNat).toNat : Int) = 165))) (v' := (.bool (decide (((f i.toNat).toNat : Int) = 165)))) (w' := w) rfl h4.1 (unguarded h4.2.2) (by have Ec : a.eval (.const (.int .u8 165)) = .int .u8 165 := rfl; simp [execOp, h4.2.1, E71, Ec, eqGuard, binOp, Op.intCmp]; rfl) F D hlen (by decide) (rfl) fun a F D hlen E72 X => ?_
 exact hK _ _ _ _ _ hk ⟨F, r.R, r.le, r.len, D⟩
def eLen (n cp : Nat) (K : List Value → Xm → Prop) (vt : List Value) (m : Xm) : Prop :=
 match vt.getD 11 undef with
 | .int .i64 i => vt.getD 9 undef = .slice (some ⟨2, 0, none⟩) n cp ∧ vt.length = 142 ∧ K ((((vt.set 62 .nilIface).set 63 .nilIface).set 64 .nilIface).set 65 (.bool (decide (i < (n : Int))))) m
 | _ => False
theorem eLen_sound {bs : List Nat} {w0 : World} {ds : List Deferred} {bl0 : Bl} {K : List Value → Xm → Prop} {Q : Exit → Act → World → Prop} {bl : Bl} {vt : List Value} {m : Xm} {a : Act} {w : World} {B n cp : Nat} {ops : Array Oper} {id : Nat} {o0 o1 o2 o3 : Oper} {tS tB tI : TypeId} (hb0 : bl0[2]? = some (some B)) (hu : Tryz.prog.underlying tS = some (.slice tB)) (ho : ops = #[o0, o1, o2, o3])
    (h0 : o0.dst = some 62 ∧ o0.op = .move (.tmp 11) ∧ o0.guard = none) (h1 : o1.dst = some 63 ∧ o1.op = .move (.tmp 9) ∧ o1.guard = none) (h2 : o2.dst = some 64 ∧ o2.op = .call { callee := .builtin .len, args := #[.tmp 63], argTypes := #[tS] } ∧ o2.guard = none) (h3 : o3.dst = some 65 ∧ o3.op = .binOp .lss tI (.tmp 62) (.tmp 64) tI ∧ o3.guard = none)
    (h : eLen n cp K vt m) (r : Rl bs w0 ds bl0 bl vt m a w) (hK : ∀ bl vt m a w, K vt m → Rl bs w0 ds bl0 bl vt m a w → Q .normal a w) : (Code.region id ops false).wp Tryz.prog Q a w := by
 subst ho
 have hlen := r.F.len
 unfold eLen at h
 split at h
 case h_2 => exact h.elim
 rename_i i hi
 obtain ⟨hsl, hlt, hk⟩ := h
 rw [hlt] at hlen
 have hiv := r.F.rv 11
 rw [hi] at hiv
 have E11 : a.eval (.tmp 11) = .int .i64 i := hiv
 have hsv := r.F.rv 9
 rw [hsl] at hsv
 obtain ⟨C, hC, E9⟩ := hsv
 have hC : bl[2]? = some (some C) := hC
 rw [r.le 2 B hb0] at hC
 cases hC
 have E9 : a.eval (.tmp 9) = .slice (some ⟨B, 0, none⟩) n cp := E9
 have F := r.F
 have D := r.defers
 refine wp_region ?_
 have r0 := run_under hu w
 refine ops_valS (v := .nilIface) (v' := (.int .i64 i)) (w' := w) rfl h0.1 (unguarded h0.2.2) (by simp [execOp, h0.2.1, E11]) F D hlen (by decide) (rfl) fun a F D hlen E62 X => ?_
 have E9 := (X 9 (by decide)).trans E9
 refine ops_valS (v := .nilIface) (v' := (.slice (some ⟨B, 0, none⟩) n cp)) (w' := w) rfl h1.1 (unguarded h1.2.2) (by simp [execOp, h1.2.1, E9]) F D hlen (by decide) (rfl) fun a F D hlen E63 X => ?_
 have E62 := (X 62 (by decide)).trans E62
 refine ops_valS (v := .nilIface) (v' := (.int .i64 (n : Nat))) (w' := w) rfl h2.1 (unguarded h2.2.2) (by simp [execOp, h2.2.1, resolve, invoke, builtin, E63, Builtin.len_, r0, goInt]) F D hlen (by decide) (rfl) fun a F D hlen E64 X => ?_
 have E62 := (X 62 (by decide)).trans E62
 refine ops_valS (v := .bool (decide (i < (n : Int)))) (v' := (.bool (decide (i < (n : Int))))) (w' := w) rfl h3.1 (unguarded h3.2.2) (by simp [execOp, h3.2.1, E62, E64, eqGuard, binOp, Op.intCmp]) F D hlen (by decide) (rfl) fun a F D hlen E65 X => ?_
 exact hK _ _ _ _ _ hk ⟨F, r.R, r.le, r.len, D⟩
def eCon (tbl : List (Ct Tryz.prog)) (n cp : Nat) (T : ByteArray) (ops : Array Oper) (K : List Value → Xm → Prop) (vt : List Value) (m : Xm) : Prop :=
 vt.getD 9 undef = .slice (some ⟨2, 0, none⟩) n cp ∧ vt.getD 12 undef = .pointer (some ⟨3, 0, none⟩) ∧ vt.length = 142 ∧
  match vt.getD 13 undef, (m[3]?).bind dCra.dec with
  | .int .i64 t, some c => vseq Tryz.prog tbl ops (nid m.length ops) K [4, 5, 6, 7, 8, 9, 10] ((((vt.set 108 (.agg (dCra.enc c).toArray)).set 109 (.int .i64 t)).set 110 .nilIface).set 111 (.string T)) (m ++ newCells Tryz.prog ops)
  | _, _ => False
theorem eCon_sound {tbl : List (Ct Tryz.prog)} {bs : List Nat} {w0 : World} {ds : List Deferred} {bl0 : Bl} {K : List Value → Xm → Prop} {Q : Exit → Act → World → Prop} {bl : Bl} {vt : List Value} {m : Xm} {a : Act} {w : World} {B n cp : Nat} {T : ByteArray} {ops : Array Oper} {id : Nat} {o0 o1 o2 o3 : Oper} {tC tS tB : TypeId} (hC : tC = 50) (hb0 : bl0[2]? = some (some B))
    (hT : ∀ w : World, w.heap[B]? = w0.heap[B]? → (convert tB tS (.slice (some ⟨B, 0, none⟩) n cp)).run Tryz.prog w = .ok (.string T) w) (hl : B < w0.heap.size) (hbs : B ∉ bs) (hres : resOk Tryz.prog ops = true) (hsz : ops.size = 11)
    (g0 : ops[0]? = some o0) (g1 : ops[1]? = some o1) (g2 : ops[2]? = some o2) (g3 : ops[3]? = some o3)
    (h0 : o0.dst = some 108 ∧ o0.op = .load tC (.tmp 12) ∧ o0.guard = none) (h1 : o1.dst = some 109 ∧ o1.op = .move (.tmp 13) ∧ o1.guard = none) (h2 : o2.dst = some 110 ∧ o2.op = .move (.tmp 9) ∧ o2.guard = none) (h3 : o3.dst = some 111 ∧ o3.op = .convert tB tS (.tmp 110) ∧ o3.guard = none)
    (h : eCon tbl n cp T ops K vt m) (r : Rl bs w0 ds bl0 bl vt m a w) (hK : ∀ bl vt m a w, K vt m → Rl bs w0 ds bl0 bl vt m a w → Q .normal a w) : (Code.region id ops false).wp Tryz.prog Q a w := by
 subst hC
 have hlen := r.F.len
 obtain ⟨h9, h12, hlt, hk⟩ := h
 rw [hlt] at hlen
 split at hk
 case h_2 => exact hk.elim
 rename_i t c ht hc
 have hm3 : m[3]? = some (dCra.enc c) := by
  cases hm : m[3]? with
  | none => rw [hm] at hc; cases hc
  | some row => rw [hm] at hc; rw [dCra.law _ _ hc]
 have E13 : a.eval (.tmp 13) = .int .i64 t := by
  have := r.F.rv 13
  rw [ht] at this
  exact this
 have hsv := r.F.rv 9
 rw [h9] at hsv
 obtain ⟨C, hC, E9⟩ := hsv
 have hC : bl[2]? = some (some C) := hC
 rw [r.le 2 B hb0] at hC
 cases hC
 have E9 : a.eval (.tmp 9) = .slice (some ⟨B, 0, none⟩) n cp := E9
 have hp := r.F.rv 12
 rw [h12] at hp
 obtain ⟨B12, hB12, E12⟩ := hp
 have E12 : a.eval (.tmp 12) = .pointer (some ⟨B12, 0, none⟩) := E12
 obtain ⟨row, e3, A3⟩ := r.R.arr 3 B12 hB12
 have e3 : m[3]? = some row := e3
 rw [hm3] at e3
 cases e3
 have rl := loadV_run (craft_load c) A3
 have hv := hT w (r.R.block B hl hbs)
 obtain ⟨C, hC⟩ : ∃ C, C = (dCra.enc c).toArray := ⟨_, rfl⟩
 rw [← hC] at rl hk
 have F := r.F
 have D := r.defers
 refine wp_region ?_
 rw [hsz]
 refine ops_valS (v := .agg C) (v' := (.agg C)) (w' := w) g0 h0.1 (unguarded h0.2.2) (by simp [execOp, h0.2.1, E12, Instr.loadAt, Instr.sureAddr, rl]) F D hlen (by decide) (.same rfl) fun a F D hlen E108 X => ?_
 have E13 := (X 13 (by decide)).trans E13
 have E9 := (X 9 (by decide)).trans E9
 refine ops_valS (v := .int .i64 t) (v' := (.int .i64 t)) (w' := w) g1 h1.1 (unguarded h1.2.2) (by simp [execOp, h1.2.1, E13]) F D hlen (by decide) (rfl) fun a F D hlen E109 X => ?_
 have E9 := (X 9 (by decide)).trans E9
 refine ops_valS (v := .nilIface) (v' := (.slice (some ⟨B, 0, none⟩) n cp)) (w' := w) g2 h2.1 (unguarded h2.2.2) (by simp [execOp, h2.2.1, E9]) F D hlen (by decide) (rfl) fun a F D hlen E110 X => ?_
 refine ops_valS (v := .string T) (v' := (.string T)) (w' := w) g3 h3.1 (unguarded h3.2.2) (by simp [execOp, h3.2.1, E110, hv]) F D hlen (by decide) (rfl) fun a F D hlen E111 X => ?_
 refine vseq_sound (ds := ds) (rs := m ++ newCells Tryz.prog ops) (ln := m.length + (newCells Tryz.prog ops).length) (fun bl vt m a w hk F R hle h1 h2 h3 => hK bl vt m a w hk ⟨F, R, hle, h1.trans h2.symm, h3⟩) [4, 5, 6, 7, 8, 9, 10] _ _ _ a w (by decide) hk (F.mono (Le.wide bl (newCells Tryz.prog ops).length)) (r.R.wide _ _) (fun _ _ => rfl) (fun i _ => fresh_start r.len hres i) (r.le.trans (Le.wide bl _)) ?_ ?_ D
 ·rw [List.length_append, List.length_replicate, r.len]
 ·rw [List.length_append]
end Go.Proofs.YteeohbiaclojaaaGreatDoor
