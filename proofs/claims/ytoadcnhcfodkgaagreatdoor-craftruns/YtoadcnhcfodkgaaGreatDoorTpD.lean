/-
  The laws' lights and light, for the seat YtoadcnhcfodkgaaGreatDoor.
-/
import Derived.Test.YtoadcnhcfodkgaaGreatDoorTpC
namespace Go.Proofs.YtoadcnhcfodkgaaGreatDoor
open Go.RowKit

/-! ### lights -/
theorem take_none (F : Fs) (t : Int) : takeW F zeroCra t noBytes = (leftC zeroCra (restOf []), zeroHea) := rfl
theorem cnt_small (b : Bool) : cntW 0 b ≤ 1 := by
  unfold cntW
  cases b
  · decide
  · decide
theorem zero_next {s : See} (h : s.2.2.2.2.2.2.2 = 0) : (nextT ((0, 0, 0, 0, 0, 0, ()), s)).1 = 0 := by
  show (nextW ⟨0, 0, 0, 0, 0, 0⟩ (snOf s)).mode = 0
  have h1 : ¬ (snOf s).order = 1 := by
    show ¬ s.2.2.2.2.2.2.2 = 1
    omega
  unfold nextW nextV
  rw [if_neg h1, if_neg (by decide), if_pos rfl]
  unfold detW
  dsimp only
  rw [if_neg (by have := cnt_small ((snOf s).gyro && (snOf s).slow); omega)]
theorem first_step {F : Fs} (hF : FsIs F) : (stepF F zeroCra 5 noBytes).1.1 = true ∧ (telF F (stepF F zeroCra 5 noBytes).1).1 = 5 ∧ (telF F (stepF F zeroCra 5 noBytes).1).2.1 = 0 ∧ CInv (stepF F zeroCra 5 noBytes).1 := by
  have hs : stays zeroCra 5 = false := rfl
  obtain ⟨k, _⟩ := took hF CInv.zero noBytes hs
  refine ⟨k.on, k.tick, ?_, k.inv⟩
  show (cPlan (stepF F zeroCra 5 noBytes).1).1 = 0
  obtain ⟨p, s, hp, _, ho, _, hn⟩ := k.plan
  rw [take_none] at ho
  have hp : p = (0, 0, 0, 0, 0, 0, ()) := by
    rcases hp with e | e <;> rw [e] <;> rfl
  subst hp
  have hz := zero_next ho
  rcases hn with e | ⟨e, _⟩
  · rw [e]
    exact hz
  · exact absurd (hz.symm.trans e) (by decide)
/-! ### light -/
def liK : List Nat := [1, 3, 8, 9, 7]
def liF (s n i : Int) (sl : Value) (d : Nat → Value) : List Value := frm [(1, ptr 1), (3, .int .i64 s), (8, .int .i64 n), (9, .int .i64 i), (7, sl)] d 35
def liE (s n i : Int) (sl : Value) (d : Nat → Value) : List Value := vset ((liF s n i sl d).set 10 (.bool (decide (i < n)))) (.tmp 10) false
/-- The length once more, and what is asked then. -/
def lgE (ao : Option Addr) (n cap : Nat) (sl : Value) (ops : Array Oper) (K : List Value → Xm → Prop) (vt : List Value) (m : Xm) : Prop :=
  vt.getD 1 undef = .pointer (some ⟨1, 0, none⟩) ∧ (∃ x, m[1]? = some [x, .slice ao n cap]) ∧ vt.length = 35 ∧ vseq Tryz.prog [] ops (nid 0 ops) K [3, 4, 5, 6, 7, 8, 9, 10, 11, 12, 13, 14] (((vt.set 21 .nilIface).set 22 sl).set 23 (.int .i64 (n : Nat))) m
def liO (ao : Option Addr) (n cap : Nat) (L : Nat → Int × ByteArray) (sl : Value) : Ov := fun id => match id with
  | 2 => some fun _ _ K => eSl 1 6 7 8 9 35 ao n cap sl (forget liK 35 2 K)
  | 4 => some fun _ _ => eRec 7 9 11 12 5 2 35 n L sl
  | 8 => some (cutBy Tryz.prog [] (fun _ => []) 8 liK 35 2)
  | 9 => some fun ops _ => lgE ao n cap sl ops
  | _ => none
/-- What returns, returns. -/
def retOf (P : Program) (fn : Func) (Post : Value → Prop) (Q : VQ) : VQ := fun e vt m => match e with
  | .ret => retQ P fn (fun v _ => Post v) .ret vt m
  | e => Q e vt m
section
variable (ao : Option Addr) (nn cap : Nat) (L : Nat → Int × ByteArray) (sl : Value)
end
theorem lgE_sound {w0 : World} {ds : List Deferred} {bl0 : Bl} {K : List Value → Xm → Prop} {Q : Exit → Act → World → Prop} {bl : Bl} {vt : List Value} {m : Xm} {a : Act} {w : World} {B : Nat} {ao : Option Addr} {n cap : Nat} {L : Nat → Int × ByteArray} {sl : Value} {ops : Array Oper} {id : Nat} {o0 o1 o2 : Oper} {tP tS tE : TypeId} (hb0 : bl0[0]? = some (some B)) (hr : Recs w0 B ao n cap L sl) (hfl : fieldV Tryz.prog tP 1 = some 1) (hag : qrun Tryz.prog (isAgg tS) = some false) (hu : Tryz.prog.underlying tS = some (.slice tE)) (hsz : ops.size = 15) (hnew : ops.all (fun o => !isNew o) = true)
    (g0 : ops[0]? = some o0) (g1 : ops[1]? = some o1) (g2 : ops[2]? = some o2) (h0 : o0.dst = some 21 ∧ o0.op = .fieldAddr tP (.tmp 1) 1 ∧ o0.guard = none) (h1 : o1.dst = some 22 ∧ o1.op = .load tS (.tmp 21) ∧ o1.guard = none) (h2 : o2.dst = some 23 ∧ o2.op = .call { callee := .builtin .len, args := #[.tmp 22], argTypes := #[tS] } ∧ o2.guard = none)
    (h : lgE ao n cap sl ops K vt m) (r : Rl [] w0 ds bl0 bl vt m a w) (hK : ∀ bl vt m a w, K vt m → Rl [] w0 ds bl0 bl vt m a w → Q .normal a w) : (Code.region id ops false).wp Tryz.prog Q a w := by
  have hlen := r.F.len
  obtain ⟨hp, ⟨x0, hm⟩, hlt, hk⟩ := h
  rw [hlt] at hlen
  have hp' := r.F.rv 1
  rw [hp] at hp'
  obtain ⟨C, hC, E1⟩ := hp'
  have E1 : a.eval (.tmp 1) = .pointer (some ⟨C, 0, none⟩) := E1
  obtain ⟨row, e0, A0⟩ := r.R.arr 1 C hC
  have e0 : m[1]? = some row := e0
  rw [hm] at e0
  cases e0
  have hld : loadV Tryz.prog tS [x0, .slice ao n cap] 1 = some (.slice ao n cap) := by unfold loadV; rw [hag]; rfl
  have rld := loadV_run hld A0
  have rfl1 := fieldV_run hfl C 0 w
  have hrv := hr.rv bl (r.le 0 B hb0)
  have r0 := run_under hu w
  have F := r.F
  have D := r.defers
  refine wp_region ?_
  rw [hsz]
  refine ops_valS (v := .nilIface) (v' := (.pointer (some ⟨C, 1, none⟩))) (w' := w) g0 h0.1 (unguarded h0.2.2) (by simp [execOp, h0.2.1, E1, rfl1]) F D hlen (by decide) (rfl) fun a F D hlen E21 X => ?_
  refine ops_valS (v := sl) (v' := (.slice ao n cap)) (w' := w) g1 h1.1 (unguarded h1.2.2) (by simp [execOp, h1.2.1, E21, Instr.loadAt, Instr.sureAddr, rld]) F D hlen (by decide) (hrv) fun a F D hlen E22 X => ?_
  refine ops_valS (v := .int .i64 (n : Nat)) (v' := (.int .i64 (n : Nat))) (w' := w) g2 h2.1 (unguarded h2.2.2) (by simp [execOp, h2.2.1, resolve, invoke, builtin, E22, Builtin.len_, r0, goInt]) F D hlen (by decide) (rfl) fun a F D hlen E23 X => ?_
  refine vseq_sound (base := 0) (rs := m) (ln := m.length) (bl0 := bl0) (tbl := []) (fun bl' vt' m' a' w' hk F R hle hl hml hd => hK bl' vt' m' a' w' hk ⟨F, R, hle, hl.trans hml.symm, hd⟩) [3, 4, 5, 6, 7, 8, 9, 10, 11, 12, 13, 14] bl _ m _ w (by decide) hk F r.R (fun _ _ => rfl) ?_ r.le r.len rfl D
  intro i _ o ho hn
  have := Array.all_eq_true_iff_forall_mem.1 hnew o (Array.mem_of_getElem? ho)
  rw [hn] at this
  cases this
section
variable (ao : Option Addr) (nn cap : Nat) (L : Nat → Int × ByteArray) (sl : Value)
end
theorem ptrOk_le {sl : Value} (h : ptrOk 1 sl = true) {k : Nat} (hk : 1 ≤ k) : ptrOk k sl = true := by
  match sl, h with
  | .pointer (some a), hp => exact decide_eq_true (by have := of_decide_eq_true hp; omega)
  | .slice (some a) _ _, hp => exact decide_eq_true (by have := of_decide_eq_true hp; omega)
  | .slice none _ _, _ => rfl
  | .pointer none, _ => rfl
  | .bool _, _ => rfl
  | .int _ _, _ => rfl
  | .float _ _, _ => rfl
  | .complex _ _ _, _ => rfl
  | .string _, _ => rfl
  | .map _, _ => rfl
  | .chan _, _ => rfl
  | .func _ _ _, _ => rfl
  | .nilFunc, _ => rfl
  | .nilIface, _ => rfl
  | .iface _ _, _ => rfl
  | .agg _, _ => rfl
  | .tuple _, _ => rfl
/-- A round, as a row. -/
def LiR (P : Program) (fn : Func) (nn : Nat) (L : Nat → Int × ByteArray) (sl : Value) (Post : Value → Prop) (G : VQ → List Value → Xm → Prop) : Prop := ∀ (s n i : Int) (d : Nat → Value) (pl : List Value) (Q : VQ), G (retOf P fn Post Q) (liF s n i sl d) [[], pl] =
      vif (decide (i < n)) ((0 ≤ i ∧ i.toNat < nn) ∧ sl = sl ∧ 2 = 2 ∧ 35 = 35 ∧ vif (decide (IntKind.i64.wrap (s + ((L i.toNat).2.size : Nat)) > 3000)) (Post (.bool false)) (35 = 35 ∧ (ptrOk 2 sl && true) = true ∧ ∀ d, Q .normal (liF (IntKind.i64.wrap (s + ((L i.toNat).2.size : Nat))) n (IntKind.i64.wrap (i + 1)) sl d) [[], pl]))
      (Q (.exit 0) (liE s n i sl d) [[], pl])
theorem loop_ret {P : Program} {fn : Func} {Post : Value → Prop} {k : Nat} {G : VQ → List Value → Xm → Prop} {Q : VQ} {vt : List Value} {m : Xm} : loopN (k + 1) G (retOf P fn Post Q) vt m = G (retOf P fn Post (fun e vt' m' => match e with
    | .normal => loopN k G (retOf P fn Post Q) vt' m'
    | e => Q e vt' m')) vt m := by
  rw [loopN]
  congr 1
  funext e vt' m'
  cases e <;> rfl
theorem li_loop {P : Program} {fn : Func} {nn : Nat} {L : Nat → Int × ByteArray} {sl : Value} {Post : Value → Prop} {G : VQ → List Value → Xm → Prop} (hG : LiR P fn nn L sl Post G) (hn : nn ≤ 1000000000000000) (hz : ∀ i, i < nn → (L i).2.size ≤ 1000000000000000) (hp : ptrOk 1 sl = true) (hf : Post (.bool false)) (Q : VQ) (pl : List Value)
    (hQ : ∀ s i d, s + 0 ≤ 3000 → remS L 0 nn = s → Q (.exit 0) (liE s nn i sl d) [[], pl]) (k : Nat) : ∀ (i : Nat), i + k = nn → ∀ (s : Nat) (d : Nat → Value), s ≤ 3000 → remS L 0 nn = s + remS L i k → loopN (k + 1) G (retOf P fn Post Q) (liF s nn i sl d) [[], pl] := by
  induction k with
  | zero =>
    intro i e s d hs hr
    rw [loop_ret, hG, decide_eq_false (by omega)]
    exact hQ s i d (by omega) hr
  | succ k ih =>
    intro i e s d hs hr
    have hr : remS L 0 nn = s + ((L i).2.size + remS L (i + 1) k) := hr
    have hzi := hz i (by omega)
    rw [loop_ret, hG, decide_eq_true (by omega), Int.toNat_natCast]
    have hw : IntKind.i64.wrap ((i : Int) + 1) = ((i + 1 : Nat) : Int) := by
      rw [IntKind.wrap_i64]
      omega
    have hv : IntKind.i64.wrap ((s : Int) + ((L i).2.size : Nat)) = ((s + (L i).2.size : Nat) : Int) := by
      rw [IntKind.wrap_i64]
      omega
    rw [hw, hv]
    refine ⟨⟨by omega, by omega⟩, rfl, rfl, rfl, ?_⟩
    by_cases hg : ((s + (L i).2.size : Nat) : Int) > 3000
    · rw [decide_eq_true hg]
      exact hf
    · rw [decide_eq_false hg]
      refine ⟨rfl, by rw [ptrOk_le hp (by decide)]; rfl, fun d => ?_⟩
      exact ih (i + 1) (by omega) (s + (L i).2.size) d (by omega) (by omega)
theorem Recs.same {w w' : World} {B : Nat} {ao : Option Addr} {n cap : Nat} {L : Nat → Int × ByteArray} {sl : Value} (h : Recs w B ao n cap L sl) (hb : Below w.heap.size w w') : Recs w' B ao n cap L sl := by
  have e := hb.block B h.lies
  exact ⟨h.rv, h.ok, Nat.lt_of_lt_of_le h.lies hb.size, h.idx, fun i hi => let ⟨o, h1, h2, h3⟩ := h.at_ i hi; ⟨o, h1, by rw [cell_old e]; exact h2, by rw [cell_old e]; exact h3⟩⟩
end Go.Proofs.YtoadcnhcfodkgaaGreatDoor
