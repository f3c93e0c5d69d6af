/-
  A run over names: statements and code, for the seat YtoadcnhcfodkgaaGreatDoor. No Go text in sight.
-/
import Derived.Test.YtoadcnhcfodkgaaGreatDoorNyB
import Derived.Test.YtoadcnhcfodkgaaGreatDoorNyS
namespace Go.Proofs.YtoadcnhcfodkgaaGreatDoor.Nx
open Go.RowKit Go.Proofs.YtoadcnhcfodkgaaGreatDoor

section
variable {P : Program} {σ : Type} {I : List Int → σ → Bool → Prop} {τ : List Int} {fl : Bool} {tbl : List (Rw σ)} {hT : TOk P I tbl} {d n e : Nat} {T : Tr Value d} {nb : Nat} {M : Tr (List Value) e} {F : Fct} {s : σ} {vt : List Value} {m : Xm}
theorem Pnt.next {K K2 : AK d e σ} {S : (List Value → Xm → Prop) → Prop} {S2 : List Value → Xm → (List Value → Xm → Prop) → Prop} (h : Pnt I fl d n e τ K S) (hk : ∀ τ' T' nb' M' F' s' vt' m', K T' nb' M' F' s' = true → Rep I fl d n e τ' T' nb' M' F' s' vt' m' → Pnt I fl d n e τ' K2 (S2 vt' m')) : Pnt I fl d n e τ K2 (fun K' => S (fun vt m => S2 vt m K')) := by
  obtain ⟨vt1, m1, τ1, T1, nb1, M1, F1, s1, h1, x1, R1, k1⟩ := h
  obtain ⟨vt2, m2, τ2, T2, nb2, M2, F2, s2, h2, x2, R2, k2⟩ := hk τ1 T1 nb1 M1 F1 s1 vt1 m1 h1 R1
  exact ⟨vt2, m2, τ2, T2, nb2, M2, F2, s2, h2, x1.trans x2, R2, fun K' hK => k1 _ (k2 K' hK)⟩
theorem Pnt.imp {K : AK d e σ} {S S2 : (List Value → Xm → Prop) → Prop} (h : Pnt I fl d n e τ K S) (hi : ∀ K', S K' → S2 K') : Pnt I fl d n e τ K S2 := by
  obtain ⟨vt1, m1, τ1, T1, nb1, M1, F1, s1, h1, x1, R1, k1⟩ := h
  exact ⟨vt1, m1, τ1, T1, nb1, M1, F1, s1, h1, x1, R1, fun K' hK => hi _ (k1 K' hK)⟩
theorem Pnt.here {K : AK d e σ} (h : K T nb M F s = true) (R : Rep I fl d n e τ T nb M F s vt m) : Pnt I fl d n e τ K (fun K' => K' vt m) := ⟨vt, m, τ, T, nb, M, F, s, h, ExtF.refl _ _, R, fun _ hK => hK⟩
theorem step_vop {al : Bool} {gc : Nat → Bool} {id : Nat} {o : Oper} {K : AK d e σ} {fr : Bool} (h : StepOk P I fl tbl hT d n e fr al (fun _ => true) gc id o τ K s vt m) : Pnt I fl d n e τ K (fun K' => vop P (cts P tbl hT) id o vt m K') := by
  rcases h with ⟨_, u, T', nb', M', F', hu, hK, R⟩ | ⟨_, hn, _, hp⟩
  · refine (Pnt.here hK R).imp fun K' hK => ?_
    unfold vop
    rw [hu]
    exact hK
  · refine hp.imp fun K' hK => ?_
    unfold vop
    rw [hn]
    exact hK
theorem set_same {vt : List Value} {i : Nat} {v : Value} (h : vt.getD i undef = v) : vt.set i v = vt := by
  by_cases hi : i < vt.length
  · rw [List.getD_eq_getElem?_getD, List.getElem?_eq_getElem hi] at h
    have h : vt[i] = v := h
    rw [← h]
    exact List.set_getElem_self hi
  · exact List.set_eq_of_length_le (Nat.le_of_not_lt hi)
theorem Rep.setB (hn : n ≤ 8 ^ d) (R : Rep I fl d n e τ T nb M F s vt m) {i : Nat} {b : Bool} (hb : vt.getD i undef = .bool b) {K : Tr Value d → Bool} {t : Value} (gt : G2 τ t (.bool b)) (h : (dstOf d n (some i)).set T t K = true) : ∃ T', K T' = true ∧ Rep I fl d n e τ T' nb M F s vt m := by
  obtain ⟨T', hK, hT'⟩ := dstOf_ok hn h
  refine ⟨T', hK, ?_, R.gm, R.hb, R.ff, R.iv⟩
  rw [hT']
  have := R.gf.set i (t := t) (v := .bool b) gt
  rwa [set_same hb] at this
theorem Rep.putU (hn : n ≤ 8 ^ d) (R : Rep I fl d n e τ T nb M F s vt m) {o : Option Tmp} {K : Tr Value d → Bool} (h : (dstOf d n o).set T undef K = true) : ∃ T', K T' = true ∧ Rep I fl d n e τ T' nb M F s (vput vt o undef) m := by
  obtain ⟨T', hK, hT'⟩ := dstOf_ok hn h
  exact ⟨T', hK, by rw [hT']; exact R.gf.put o (real2_same (t := undef) rfl), R.gm, R.hb, R.ff, R.iv⟩
theorem VE_tmp (vt : List Value) (i : Nat) : VE vt (.tmp i) = vt.getD i undef := rfl
/-! ### Statements in the order of their text -/
theorem vseq_at {ops : Array Oper} {tbl : List (Ct P)} {ids : Nat → Nat} {K : List Value → Xm → Prop} {i : Nat} {rest : List Nat} {vt : List Value} {m : Xm} {o : Oper} (ho : ops[i]? = some o) {g : Nat} {want : Bool} (hg : o.guard = some (g, want)) {d : Nat} (hd : (ops[g]?).bind (·.dst) = some d) {x : Bool} (hx : vt.getD d undef = .bool x)
    (h : match x == want with
      | true => vop P tbl (ids i) o (vt.set d (.bool x)) m (vseq P tbl ops ids K rest)
      | false => vseq P tbl ops ids K rest (vput (vt.set d (.bool x)) o.dst undef) m) : vseq P tbl ops ids K (i :: rest) vt m := by
  unfold vseq
  rw [ho]
  dsimp only
  rw [hg]
  dsimp only
  rw [hd]
  dsimp only
  rw [hx]
  cases x <;> cases want <;> exact h
/-- A bool that an operation hangs on: as it is, or told apart. -/
def gdK (d n : Nat) (i : Nat) (want : Bool) (dst : Option Tmp) (T : Tr Value d) (yes no : Tr Value d → Bool) : Bool := (opOf d n (.tmp i)).get T fun c => match c with
  | .bool x => Bool.casesOn (motive := fun _ => Bool) (x == want) ((dstOf d n dst).set T undef no) (yes T)
  | .tuple ⟨[]⟩ => (dstOf d n dst).set T undef no
  | c => an (boolA c) (an ((dstOf d n (some i)).set T (.bool want) yes) ((dstOf d n (some i)).set T (.bool !want) fun T => (dstOf d n dst).set T undef no))
theorem gdK_ok (hn : n ≤ 8 ^ d) {i : Nat} {want : Bool} {dst : Option Tmp} {yes no : Tr Value d → Bool} (R : Rep I fl d n e τ T nb M F s vt m) (h : gdK d n i want dst T yes no = true) :
    (∃ x T', vt.getD i undef = .bool x ∧ ((x = want ∧ yes T' = true ∧ Rep I fl d n e τ T' nb M F s vt m) ∨ (x ≠ want ∧ no T' = true ∧ Rep I fl d n e τ T' nb M F s (vput vt dst undef) m))) ∨ (vt.getD i undef = .tuple ⟨[]⟩ ∧ ∃ T', no T' = true ∧ Rep I fl d n e τ T' nb M F s (vput vt dst undef) m) := by
  unfold gdK at h
  rw [opOf_is] at h
  have gd := R.gf.g i
  have e0 : VE (toL d n T) (.tmp i) = (toL d n T).getD i undef := rfl
  rw [e0] at h
  split at h
  · rename_i x hx
    rw [hx] at gd
    cases hw : (x == want) with
    | true =>
      rw [hw] at h
      exact .inl ⟨x, T, gd.bool, .inl ⟨eq_of_beq hw, h, R⟩⟩
    | false =>
      rw [hw] at h
      obtain ⟨T', hK, R'⟩ := R.putU hn h
      exact .inl ⟨x, T', gd.bool, .inr ⟨fun e => by subst e; simp at hw, hK, R'⟩⟩
  · rename_i hx
    rw [hx] at gd
    obtain ⟨T', hK, R'⟩ := R.putU hn h
    exact .inr ⟨gd.1, T', hK, R'⟩
  · simp only [an_is] at h
    obtain ⟨hb, h1, h2⟩ := h
    obtain ⟨x, hx⟩ := boolA_is hb gd
    by_cases hw : x = want
    · obtain ⟨T', hK, R'⟩ := R.setB hn (hx.trans (by rw [hw])) (t := .bool want) ⟨rfl, rfl⟩ h1
      exact .inl ⟨x, T', hx, .inl ⟨hw, hK, R'⟩⟩
    · have hx' : x = !want := by cases x <;> cases want <;> simp_all
      obtain ⟨T1, hK1, R1⟩ := R.setB hn (hx.trans (by rw [hx'])) (t := .bool !want) ⟨rfl, rfl⟩ h2
      obtain ⟨T', hK, R'⟩ := R1.putU hn hK1
      exact .inl ⟨x, T', hx, .inr ⟨hw, hK, R'⟩⟩
/-- Steps one behind the other (the number of the first new block, and what comes then). -/
structure Sq (d e : Nat) (σ : Type) where
  run : Nat → AK d e σ → AK d e σ
def seqG (d n : Nat) {e : Nat} (ops : Array Oper) (i : Nat) (o : Oper) (p : Ins d e σ) (r : Sq d e σ) : Sq d e σ :=
  match o.guard with
  | none => ⟨fun base K T nb M F s => p.run true true (fun _ => true) (fun _ => false) (nid base ops i) T nb M F s (r.run base K)⟩
  | some (g, want) => (match (ops[g]?).bind (·.dst) with
    | none => ⟨fun _ _ _ _ _ _ _ => false⟩
    | some j => ⟨fun base K T nb M F s => gdK d n j want o.dst T (fun T => p.run true true (fun _ => true) (fun _ => false) (nid base ops i) T nb M F s (r.run base K)) (fun T => r.run base K T nb M F s)⟩)
def seqN (P : Program) (fl : Bool) (tbl : List (Rw σ)) (d n e : Nat) (ops : Array Oper) : List Nat → Sq d e σ
  | [] => ⟨fun _ K T nb M F s => K T nb M F s⟩
  | i :: rest => (match ops[i]? with
    | none => ⟨fun _ _ _ _ _ _ _ => false⟩
    | some o => seqG d n ops i o (decOp P fl tbl d n e o) (seqN P fl tbl d n e ops rest))
theorem dseq_ok (hn : n ≤ 8 ^ d) {ops : Array Oper} {base : Nat} {K : AK d e σ} : ∀ (is : List Nat) (τ : List Int) (T : Tr Value d) (nb : Nat) (M : Tr (List Value) e) (F : Fct) (s : σ) (vt : List Value) (m : Xm), (seqN P fl tbl d n e ops is).run base K T nb M F s = true → Rep I fl d n e τ T nb M F s vt m →
    Pnt I fl d n e τ K (fun K' => vseq P (cts P tbl hT) ops (nid base ops) K' is vt m)
  | [], τ, T, nb, M, F, s, vt, m, h, R => Pnt.here h R
  | i :: rest, τ, T, nb, M, F, s, vt, m, h, R => by
    unfold seqN at h
    split at h
    · cases h
    · rename_i o ho
      have one : ∀ (T1 : Tr Value d), (decOp P fl tbl d n e o).run true true (fun _ => true) (fun _ => false) (nid base ops i) T1 nb M F s ((seqN P fl tbl d n e ops rest).run base K) = true → Rep I fl d n e τ T1 nb M F s vt m → Pnt I fl d n e τ K (fun K' => vop P (cts P tbl hT) (nid base ops i) o vt m (vseq P (cts P tbl hT) ops (nid base ops) K' rest)) := fun T1 h1 R1 =>
        (step_vop (decOp_ok (hT := hT) hn R1 h1)).next (S2 := fun vt m K' => vseq P (cts P tbl hT) ops (nid base ops) K' rest vt m) fun τ' T' nb' M' F' s' vt' m' h2 R2 => dseq_ok hn rest τ' T' nb' M' F' s' vt' m' h2 R2
      unfold seqG at h
      split at h
      · rename_i hg
        refine (one T h R).imp fun K' hK => ?_
        unfold vseq
        rw [ho]
        dsimp only
        rw [hg]
        exact hK
      · rename_i g want hg
        split at h
        · cases h
        · rename_i j hj
          dsimp only at h
          rcases gdK_ok hn R h with ⟨x, T', hx, ⟨hw, hK, R'⟩ | ⟨hw, hK, R'⟩⟩ | ⟨hx, T', hK, R'⟩
          · refine (one T' hK R').imp fun K' hK' => vseq_at ho hg hj hx ?_
            have : (x == want) = true := by rw [hw]; exact beq_self_eq_true want
            rw [this, set_same hx]
            exact hK'
          · refine (dseq_ok hn rest τ T' nb M F s _ m hK R').imp fun K' hK' => vseq_at ho hg hj hx ?_
            have : (x == want) = false := by cases x <;> cases want <;> simp_all
            rw [this, set_same hx]
            exact hK'
          · refine (dseq_ok hn rest τ T' nb M F s _ m hK R').imp fun K' hK' => ?_
            unfold vseq
            rw [ho]
            dsimp only
            rw [hg]
            dsimp only
            rw [hj]
            dsimp only
            rw [hx]
            exact hK'
/-! ### Statements whose order is drawn -/
/-- The same; besides, what may be read, what is written as well, and whether stores come last. -/
structure Dq (d e : Nat) (σ : Type) where
  run : Nat → (Nat → Bool) → (Nat → Bool) → AK d e σ → AK d e σ
def drawG (d n : Nat) {e : Nat} (ops : Array Oper) (j : Nat) (o : Oper) (fr al two : Bool) (p : Ins d e σ) (r : Dq d e σ) : Dq d e σ :=
  match o.guard with
  | none => ⟨fun base cl dd K T nb M F s => p.run fr al (lco cl dd two o) (gco cl dd two o) (nid base ops j) T nb M F s (r.run base cl dd K)⟩
  | some (g, want) => (match (ops[g]?).bind (·.dst) with
    | none => ⟨fun _ _ _ _ _ _ _ _ _ => false⟩
    | some i => ⟨fun base cl dd K T nb M F s => gdK d n i want o.dst T (fun T => p.run fr al (lco cl dd two o) (gco cl dd two o) (nid base ops j) T nb M F s (r.run base cl dd K)) (fun T => an fr (r.run base cl dd K T nb M F s))⟩)
def drawN (P : Program) (fl : Bool) (tbl : List (Rw σ)) (d n e : Nat) (ops : Array Oper) (two : Bool) : List Stp → Dq d e σ
  | [] => ⟨fun _ _ _ K T nb M F s => K T nb M F s⟩
  | (j, fr, al) :: js => (match ops[j]? with
    | none => ⟨fun _ _ _ _ _ _ _ _ _ => false⟩
    | some o => drawG d n ops j o fr al two (decOp P fl tbl d n e o) (drawN P fl tbl d n e ops two js))
theorem wanted_at {ops : Array Oper} {o : Oper} {g : Nat} {want : Bool} (hg : o.guard = some (g, want)) {i : Nat} (hi : (ops[g]?).bind (·.dst) = some i) : Region.wanted o (yieldedV ops vt) = (asB (vt.getD i undef) == some want) := by
  unfold Region.wanted
  rw [hg]
  dsimp only
  unfold yieldedV
  rw [hi]
theorem ddraw_ok (hn : n ≤ 8 ^ d) {ops : Array Oper} {base : Nat} {cl dd : Nat → Bool} {two : Bool} {K : AK d e σ} : ∀ (js : List Stp) (τ : List Int) (T : Tr Value d) (nb : Nat) (M : Tr (List Value) e) (F : Fct) (s : σ) (vt : List Value) (m : Xm), (drawN P fl tbl d n e ops two js).run base cl dd K T nb M F s = true → Rep I fl d n e τ T nb M F s vt m →
    Pnt I fl d n e τ K (fun K' => vdraw P (cts P tbl hT) ops (nid base ops) cl dd two K' js vt m)
  | [], τ, T, nb, M, F, s, vt, m, h, R => Pnt.here h R
  | (j, fr, al) :: js, τ, T, nb, M, F, s, vt, m, h, R => by
    unfold drawN at h
    split at h
    · cases h
    · rename_i o ho
      have one : ∀ (T1 : Tr Value d), Region.wanted o (yieldedV ops vt) = true → (decOp P fl tbl d n e o).run fr al (lco cl dd two o) (gco cl dd two o) (nid base ops j) T1 nb M F s ((drawN P fl tbl d n e ops two js).run base cl dd K) = true → Rep I fl d n e τ T1 nb M F s vt m → Pnt I fl d n e τ K (fun K' => vdraw P (cts P tbl hT) ops (nid base ops) cl dd two K' ((j, fr, al) :: js) vt m) := fun T1 hw h1 R1 => by
        rcases decOp_ok (hT := hT) hn R1 h1 with ⟨hfr, u, T', nb', M', F', hu, hK, R'⟩ | ⟨hal, hq, hvw, hp⟩
        · refine (ddraw_ok hn js τ T' nb' M' F' s _ m hK R').imp fun K' hK' => ?_
          unfold vdraw
          rw [ho]
          dsimp only
          have hq : vqG P ops (nid base ops) cl dd two j o vt m = some u := by unfold vqG; rw [hw]; exact hu
          rw [vfork_is, hq]
          dsimp only
          rw [guardB_iff]
          exact ⟨hfr, hK'⟩
        · refine (hp.next (S2 := fun vt m K' => vdraw P (cts P tbl hT) ops (nid base ops) cl dd two K' js vt m) fun τ' T' nb' M' F' s' vt' m' h2 R2 => ddraw_ok hn js τ' T' nb' M' F' s' vt' m' h2 R2).imp fun K' hK' => ?_
          unfold vdraw
          rw [ho]
          dsimp only
          have hq' : vqG P ops (nid base ops) cl dd two j o vt m = none := by unfold vqG; rw [hw]; exact hq
          rw [vfork_is, hq']
          dsimp only
          rw [guardB_iff, guardB_iff]
          exact ⟨hal, hvw, hK'⟩
      have skip : ∀ (T1 : Tr Value d), Region.wanted o (yieldedV ops vt) = false → an fr ((drawN P fl tbl d n e ops two js).run base cl dd K T1 nb M F s) = true → Rep I fl d n e τ T1 nb M F s (vput vt o.dst undef) m → Pnt I fl d n e τ K (fun K' => vdraw P (cts P tbl hT) ops (nid base ops) cl dd two K' ((j, fr, al) :: js) vt m) := fun T1 hw h1 R1 => by
        rw [an_is] at h1
        refine (ddraw_ok hn js τ T1 nb M F s _ m h1.2 R1).imp fun K' hK' => ?_
        unfold vdraw
        rw [ho]
        dsimp only
        have hq : vqG P ops (nid base ops) cl dd two j o vt m = some undef := by unfold vqG; rw [hw]
        rw [vfork_is, hq]
        dsimp only
        rw [guardB_iff]
        exact ⟨h1.1, hK'⟩
      unfold drawG at h
      split at h
      · rename_i hg
        exact one T (by unfold Region.wanted; rw [hg]) h R
      · rename_i g want hg
        split at h
        · cases h
        · rename_i i hi
          have hw := wanted_at (vt := vt) hg hi
          dsimp only at h
          rcases gdK_ok hn R h with ⟨x, T', hx, ⟨he, hK, R'⟩ | ⟨he, hK, R'⟩⟩ | ⟨hx, T', hK, R'⟩
          · exact one T' (by rw [hw, hx, he]; show (some want == some want) = true; exact beq_self_eq_true _) hK R'
          · exact skip T' (by rw [hw, hx]; show (some x == some want) = false; cases x <;> cases want <;> simp_all) hK R'
          · exact skip T' (by rw [hw, hx]; rfl) hK R'
/-! ### Statements -/
theorem base_nat {at' vt : List Value} (F : GF τ at' vt) (ops : List Oper) : ∀ (n : Nat) (x : Operand), baseOf ops vt n x = baseOf ops at' n x
  | 0, _ => rfl
  | n + 1, .tmp d => by
    unfold baseOf
    split
    · split
      · exact base_nat F ops n _
      · exact base_nat F ops n _
      · exact base_nat F ops n _
      · exact base_nat F ops n _
      · rfl
    · have g := F.g d
      have hp := g.isP
      cases ha : isP (at'.getD d undef) with
      | true =>
        generalize at'.getD d undef = x at *
        match x, ha, g with
        | .nilIface, _, g1 =>
          have e : vt.getD d undef = .nilIface := g1.1
          rw [e]
        | .slice (some b) n c, _, g1 =>
          have e : vt.getD d undef = .slice (some b) n c := g1.1
          rw [e]
        | .pointer (some a), _, g1 => rw [g1.ptr]
      | false =>
        rw [ha] at hp
        have e : ∀ v : Value, isP v = false → (match v with
          | .pointer (some a) => some a.block
          | _ => none) = (none : Option Nat) := fun v hv => by
          cases v with
          | pointer a =>
            cases a with
            | none => rfl
            | some a => cases hv
          | _ => rfl
        exact (e _ hp).trans (e _ ha).symm
  | _ + 1, .const _ => rfl
  | _ + 1, .global _ => rfl
  | _ + 1, .func _ => rfl
theorem dirty_nat {at' vt : List Value} (F : GF τ at' vt) (ops : List Oper) : autoDirty ops vt = autoDirty ops at' := by
  unfold autoDirty
  congr 1
  funext o
  split
  · exact base_nat F ops 6 _
  · rfl
def boolRow : List Value → Bool
  | [c] => boolA c
  | _ => false
def cleanA (dirty : List Nat) (base : Nat) (m0 : Xm) (k : Nat) : Bool :=
  match (m0[k]?).map boolRow with
  | some true => Nat.blt k base && dirty.contains (k + 1000)
  | _ => Nat.blt k base && !dirty.contains k
def ddA (dirty : List Nat) (base : Nat) (m0 : Xm) (k : Nat) : Bool :=
  match (m0[k]?).map boolRow with
  | some true => false
  | _ => Nat.blt k base && dirty.contains k
theorem boolRow_is {l l' : List Value} (g : All2 (G0 τ) l l') : (∃ b, l' = [.bool b]) ↔ boolRow l = true := by
  constructor
  · rintro ⟨b, rfl⟩
    match l, g with
    | [c], g =>
      show boolA c = true
      have := g.1
      unfold G0 at this
      unfold boolA
      split at this
      · obtain ⟨x, e⟩ := this
        cases e
      · rename_i e
        unfold tkn at e
        split at e <;> cases e
        rfl
      · obtain ⟨x, _, e⟩ := this
        cases e
      · obtain ⟨x, _, e⟩ := this
        cases e
      · rw [← this.1]
  · intro h
    match l, l', g, h with
    | [c], [v], g, h =>
      obtain ⟨b, e⟩ := boolA_is0 h g.1
      exact ⟨b, by rw [e]⟩
theorem clean_nat {am m : Xm} (M : GM τ am m) (dirty : List Nat) (base k : Nat) : cleanB dirty base m k = cleanA dirty base am k ∧ ddB dirty base m k = ddA dirty base am k := by
  unfold cleanB cleanA ddB ddA
  cases hk : am[k]? with
  | none =>
    have : m[k]? = none := by
      rw [List.getElem?_eq_none_iff] at hk ⊢
      rw [← M.len]
      exact hk
    rw [this]
    exact ⟨rfl, rfl⟩
  | some l =>
    obtain ⟨l', hl', g⟩ := M.g k l hk
    rw [hl']
    cases hb : boolRow l with
    | true =>
      obtain ⟨b, rfl⟩ := (boolRow_is g).2 hb
      rw [Option.map_some, hb]
      exact ⟨rfl, rfl⟩
    | false =>
      rw [Option.map_some, hb]
      have hn : ∀ b, l' ≠ [.bool b] := fun b e => by
        have := (boolRow_is g).1 ⟨b, e⟩
        rw [hb] at this
        cases this
      constructor
      · split
        · rename_i e
          cases e
          exact absurd rfl (hn _)
        · rfl
      · split
        · rename_i e
          cases e
          exact absurd rfl (hn _)
        · rfl

/-- Which block an address leads into, of a tree. -/
def baseK (ops : List Oper) (d n : Nat) (T : Tr Value d) : Nat → Operand → (Option Nat → Bool) → Bool
  | 0, _, K => K none
  | k + 1, .tmp t, K =>
    match ops.find? (fun o => o.dst == some t) with
    | some o => (match o.op with
      | .fieldAddr _ x _ => baseK ops d n T k x K
      | .indexAddr _ x _ => baseK ops d n T k x K
      | .nilCheck x => baseK ops d n T k x K
      | .move x => baseK ops d n T k x K
      | _ => K none)
    | none => (opOf d n (.tmp t)).get T fun v => match v with
      | .pointer (some a) => K (some a.block)
      | _ => K none
  | _ + 1, _, K => K none
theorem baseK_is (ops : List Oper) (T : Tr Value d) : ∀ (k : Nat) (x : Operand) (K : Option Nat → Bool), baseK ops d n T k x K = K (baseOf ops (toL d n T) k x)
  | 0, _, _ => rfl
  | k + 1, .tmp t, K => by
    unfold baseK baseOf
    cases ops.find? (fun o => o.dst == some t) with
    | some o =>
      dsimp only
      cases o.op <;> dsimp only <;> first | exact baseK_is ops T k _ K | rfl
    | none =>
      dsimp only
      rw [opOf_is, VE_tmp]
      cases (toL d n T).getD t undef with
      | pointer a => cases a <;> rfl
      | _ => rfl
  | _ + 1, .const _, _ => rfl
  | _ + 1, .global _, _ => rfl
  | _ + 1, .func _, _ => rfl
def autoK (ops : List Oper) (d n : Nat) (T : Tr Value d) : List Oper → (List Nat → Bool) → Bool
  | [], K => K []
  | o :: l, K => (match o.op with
    | .store _ x _ => baseK ops d n T 6 x fun b => autoK ops d n T l fun r => match b with
      | some b => K (b :: r)
      | none => K r
    | _ => autoK ops d n T l K)
theorem autoK_is (ops : List Oper) (T : Tr Value d) : ∀ (l : List Oper) (K : List Nat → Bool), autoK ops d n T l K = K (l.filterMap fun o => match o.op with
    | .store _ x _ => baseOf ops (toL d n T) 6 x
    | _ => none)
  | [], _ => rfl
  | o :: l, K => by
    unfold autoK
    rw [List.filterMap_cons]
    cases hop : o.op <;> dsimp only <;> try exact autoK_is ops T l K
    case store t x y =>
      rw [baseK_is, autoK_is ops T l]
      cases baseOf ops (toL d n T) 6 x <;> rfl
def cleanT (dl : List Nat) (base e : Nat) (M : Tr (List Value) e) (k : Nat) : Bool := (slot e k).get M fun row => Bool.casesOn (motive := fun _ => Bool) (boolRow row) (an (Nat.blt k base) (!dl.contains k)) (an (Nat.blt k base) (dl.contains (k + 1000)))
def ddT (dl : List Nat) (base e : Nat) (M : Tr (List Value) e) (k : Nat) : Bool := (slot e k).get M fun row => Bool.casesOn (motive := fun _ => Bool) (boolRow row) (an (Nat.blt k base) (dl.contains k)) false
theorem an_and (a b : Bool) : an a b = (a && b) := by cases a <;> rfl
theorem cleanT_is (dl : List Nat) {base nb : Nat} (M : Tr (List Value) e) (hb : base ≤ nb) (k : Nat) : cleanT dl base e M k = cleanA dl base (toL e nb M) k ∧ ddT dl base e M k = ddA dl base (toL e nb M) k := by
  unfold cleanT ddT cleanA ddA
  rw [slot_get, slot_get]
  by_cases hk : k < nb
  · rw [toL_at hk]
    dsimp only [Option.map_some]
    cases boolRow (getT e M k)
    · exact ⟨an_and _ _, an_and _ _⟩
    · exact ⟨an_and _ _, rfl⟩
  · have h0 : Nat.blt k base = false := by
      cases h : Nat.blt k base with
      | false => rfl
      | true => have := Nat.le_of_ble_eq_true h; omega
    rw [List.getElem?_eq_none (by rw [toL_len]; omega), h0]
    cases boolRow (getT e M k) <;> exact ⟨rfl, rfl⟩
def regOk (P : Program) (ops : Array Oper) : Bool := resOk P ops && (newCells P ops).all (List.all · real0)
def dregion (P : Program) (fl : Bool) (tbl : List (Rw σ)) (d n e : Nat) (dirty : Nat → List Nat) (id : Nat) (ops : Array Oper) (draw : Bool) (K : AK d e σ) (T : Tr Value d) (nb : Nat) (M : Tr (List Value) e) (F : Fct) (s : σ) : Bool :=
  match regOk P ops with
  | false => false
  | true => (match draw with
    | false => an (Nat.ble (Nat.add nb (newCells P ops).length) (8 ^ e)) (moreK e (newCells P ops) nb M fun nb' M => nN nb' fun nb' => (seqN P fl tbl d n e ops (List.range ops.size)).run nb K T nb' M F s)
    | true => (match Region.noSelect ops, schF ops with
      | true, some js => an (Nat.beq js.length ops.size) (an (Nat.ble (Nat.add nb (newCells P ops).length) (8 ^ e)) (moreK e (newCells P ops) nb M fun nb' M => nN nb' fun nb' => autoK ops.toList d n T ops.toList fun dl =>
        (drawN P fl tbl d n e ops (twoPhF ops) js).run nb (cleanT (dirty id ++ dl) nb e M) (ddT (dirty id ++ dl) nb e M) K T nb' M F s))
      | _, _ => false))
theorem GM.wide {am m ns : Xm} (M : GM τ am m) (h : ns.all (List.all · real0) = true) : GM τ (am ++ ns) (m ++ ns) := by
  refine ⟨by simp [M.len], fun k l hl => ?_⟩
  by_cases hk : k < am.length
  · rw [List.getElem?_append_left hk] at hl
    obtain ⟨l', h1, g⟩ := M.g k l hl
    exact ⟨l', by rw [List.getElem?_append_left (by rw [← M.len]; exact hk)]; exact h1, g⟩
  · rw [List.getElem?_append_right (by omega)] at hl
    refine ⟨l, by rw [List.getElem?_append_right (by rw [← M.len]; omega), ← M.len]; exact hl, All2.refl l (fun a ha => real0_same ?_)⟩
    have := List.all_eq_true.1 h l (List.mem_of_getElem? hl)
    exact List.all_eq_true.1 this a ha
theorem Inv.wide {fl : Bool} {s : σ} {m : Xm} (J : Inv I fl τ s m) (ns : Xm) : Inv I fl τ s (m ++ ns) := fun hf => by
  obtain ⟨b, h1, h2⟩ := J hf
  exact ⟨b, by rw [List.getElem?_append_left (List.getElem?_eq_some_iff.1 h1).1]; exact h1, h2⟩

theorem dregion_ok (hn : n ≤ 8 ^ d) {dirty : Nat → List Nat} {id : Nat} {ops : Array Oper} {draw : Bool} {K : AK d e σ} (h : dregion P fl tbl d n e dirty id ops draw K T nb M F s = true) (R : Rep I fl d n e τ T nb M F s vt m) :
    Pnt I fl d n e τ K (fun K' => vregion P (cts P tbl hT) dirty id ops draw K' vt m) := by
  unfold dregion at h
  split at h
  · cases h
  · rename_i hr
    unfold regOk at hr
    rw [Bool.and_eq_true] at hr
    have hl : nb = m.length := by rw [← R.gm.len, toL_len]
    have wide : ∀ M', toL e (nb + (newCells P ops).length) M' = toL e nb M ++ newCells P ops → nb + (newCells P ops).length ≤ 8 ^ e → Rep I fl d n e τ T (nb + (newCells P ops).length) M' F s vt (m ++ newCells P ops) := fun M' hM' hb => ⟨R.gf, by rw [hM']; exact R.gm.wide hr.2, hb, R.ff, R.iv.wide _⟩
    split at h
    · rw [an_is] at h
      have hb := Nat.le_of_ble_eq_true h.1
      obtain ⟨M', h, hM'⟩ := moreK_is e _ _ _ _ h.2 hb
      rw [nN_is] at h
      refine (dseq_ok (hT := hT) hn _ τ T _ M' F s vt _ h (wide M' hM' hb)).imp fun K' hK => ?_
      unfold vregion
      rw [hr.1]
      dsimp only
      rw [← hl]
      exact hK
    · split at h
      · rename_i js hns hsch
        rw [schF_is] at hsch
        rw [an_is, an_is, twoPhF_is] at h
        obtain ⟨hjs, hb, h⟩ := h
        have hb := Nat.le_of_ble_eq_true hb
        obtain ⟨M', h, hM'⟩ := moreK_is e _ _ _ _ h hb
        rw [nN_is, autoK_is] at h
        have R' := wide M' hM' hb
        refine (ddraw_ok (hT := hT) hn js τ T _ M' F s vt _ h R').imp fun K' hK => ?_
        unfold vregion
        rw [hr.1]
        dsimp only
        rw [hns, hsch]
        dsimp only
        rw [guardB_iff]
        refine ⟨hjs, ?_⟩
        have ed : autoDirty ops.toList vt = (ops.toList.filterMap fun o => match o.op with
          | .store _ x _ => baseOf ops.toList (toL d n T) 6 x
          | _ => none) := (dirty_nat R.gf ops.toList)
        rw [ed, ← hl]
        have ec : cleanB (dirty id ++ ops.toList.filterMap fun o => match o.op with
          | .store _ x _ => baseOf ops.toList (toL d n T) 6 x
          | _ => none) nb (m ++ newCells P ops) = cleanT (dirty id ++ ops.toList.filterMap fun o => match o.op with
          | .store _ x _ => baseOf ops.toList (toL d n T) 6 x
          | _ => none) nb e M' := funext fun k => ((clean_nat R'.gm _ nb k).1).trans ((cleanT_is _ M' (Nat.le_add_right _ _) k).1).symm
        have ee : ddB (dirty id ++ ops.toList.filterMap fun o => match o.op with
          | .store _ x _ => baseOf ops.toList (toL d n T) 6 x
          | _ => none) nb (m ++ newCells P ops) = ddT (dirty id ++ ops.toList.filterMap fun o => match o.op with
          | .store _ x _ => baseOf ops.toList (toL d n T) 6 x
          | _ => none) nb e M' := funext fun k => ((clean_nat R'.gm _ nb k).2).trans ((cleanT_is _ M' (Nat.le_add_right _ _) k).2).symm
        rw [ec, ee]
        exact hK
      · cases h
/-! ### Code -/
/-- The first places, one by one (off: the number of the first). -/
def mapK {α : Type} (f : α → (α → Bool) → Bool) (lim : Nat) (d : Nat) : Nat → Tr α d → (Tr α d → Bool) → Bool :=
  Nat.rec (motive := fun d => Nat → Tr α d → (Tr α d → Bool) → Bool) (fun off v K => Bool.casesOn (motive := fun _ => Bool) (Nat.ble lim off) (f v K) (K v)) (fun d ih off t K => Bool.casesOn (motive := fun _ => Bool) (Nat.ble lim off) (N8.casesOn (motive := fun _ => Bool) t (fun a b c d' e f g h => ih off a fun a => ih (Nat.add off (8 ^ d)) b fun b => ih (Nat.add off (Nat.mul 2 (8 ^ d))) c fun c => ih (Nat.add off (Nat.mul 3 (8 ^ d))) d' fun d' => ih (Nat.add off (Nat.mul 4 (8 ^ d))) e fun e => ih (Nat.add off (Nat.mul 5 (8 ^ d))) f fun f => ih (Nat.add off (Nat.mul 6 (8 ^ d))) g fun g => ih (Nat.add off (Nat.mul 7 (8 ^ d))) h fun h => K ⟨a, b, c, d', e, f, g, h⟩)) (K t)) d
def allP {α : Type} (p : α → α → Bool) (d : Nat) : Tr α d → Tr α d → Bool :=
  Nat.rec (motive := fun d => Tr α d → Tr α d → Bool) (fun a b => p a b) (fun _ ih t u => N8.casesOn (motive := fun _ => Bool) t (fun a b c d e f g h => N8.casesOn (motive := fun _ => Bool) u (fun a' b' c' d' e' f' g' h' => an (ih a a') (an (ih b b') (an (ih c c') (an (ih d d') (an (ih e e') (an (ih f f') (an (ih g g') (ih h h'))))))))) ) d
theorem mapK_ok {α : Type} {f : α → (α → Bool) → Bool} {g : α → α} (hf : ∀ v K, f v K = K (g v)) (lim : Nat) : ∀ (d off : Nat) (t : Tr α d) (K : Tr α d → Bool), mapK f lim d off t K = true → ∃ t', K t' = true ∧ ∀ i, getT d t' i = g (getT d t i) ∨ getT d t' i = getT d t i
  | 0, off, t, K, h => by
    have h : Bool.casesOn (motive := fun _ => Bool) (Nat.ble lim off) (f t K) (K t) = true := h
    cases hb : Nat.ble lim off with
    | true => rw [hb] at h; exact ⟨t, h, fun _ => .inr rfl⟩
    | false => rw [hb] at h; exact ⟨g t, (hf t K).symm.trans h, fun _ => .inl rfl⟩
  | n + 1, off, ⟨a, b, c, d, e, f', g', h'⟩, K, hh => by
    have hh : Bool.casesOn (motive := fun _ => Bool) (Nat.ble lim off) (mapK f lim n off a fun a => mapK f lim n (Nat.add off (8 ^ n)) b fun b => mapK f lim n (Nat.add off (Nat.mul 2 (8 ^ n))) c fun c => mapK f lim n (Nat.add off (Nat.mul 3 (8 ^ n))) d fun d' => mapK f lim n (Nat.add off (Nat.mul 4 (8 ^ n))) e fun e => mapK f lim n (Nat.add off (Nat.mul 5 (8 ^ n))) f' fun f6 => mapK f lim n (Nat.add off (Nat.mul 6 (8 ^ n))) g' fun g => mapK f lim n (Nat.add off (Nat.mul 7 (8 ^ n))) h' fun h => K (⟨a, b, c, d', e, f6, g, h⟩ : N8 (Tr α n))) (K (⟨a, b, c, d, e, f', g', h'⟩ : N8 (Tr α n))) = true := hh
    cases hb : Nat.ble lim off with
    | true => rw [hb] at hh; exact ⟨_, hh, fun _ => .inr rfl⟩
    | false =>
      rw [hb] at hh
      obtain ⟨a', hh, ha⟩ := mapK_ok hf lim n _ a _ hh
      obtain ⟨b', hh, hb⟩ := mapK_ok hf lim n _ b _ hh
      obtain ⟨c', hh, hc⟩ := mapK_ok hf lim n _ c _ hh
      obtain ⟨d', hh, hd⟩ := mapK_ok hf lim n _ d _ hh
      obtain ⟨e', hh, he⟩ := mapK_ok hf lim n _ e _ hh
      obtain ⟨f2, hh, hf'⟩ := mapK_ok hf lim n _ f' _ hh
      obtain ⟨g2, hh, hg⟩ := mapK_ok hf lim n _ g' _ hh
      obtain ⟨h2, hh, hh'⟩ := mapK_ok hf lim n _ h' _ hh
      refine ⟨(⟨a', b', c', d', e', f2, g2, h2⟩ : N8 (Tr α n)), hh, fun i => ?_⟩
      rw [getT_at, getT_at]
      rcases big8 (i / 8 ^ n) with k | k | k | k | k | k | k | ⟨_, k⟩ <;> rw [k]
      · exact ha _
      · exact hb _
      · exact hc _
      · exact hd _
      · exact he _
      · exact hf' _
      · exact hg _
      · exact hh' _
theorem allP_ok {α : Type} {p : α → α → Bool} : ∀ (d : Nat) (t u : Tr α d), allP p d t u = true → ∀ i, p (getT d t i) (getT d u i) = true
  | 0, _, _, h, _ => h
  | n + 1, ⟨a, b, c, d, e, f, g, h⟩, ⟨a', b', c', d', e', f', g', h'⟩, hh, i => by
    have hh : an (allP p n a a') (an (allP p n b b') (an (allP p n c c') (an (allP p n d d') (an (allP p n e e') (an (allP p n f f') (an (allP p n g g') (allP p n h h'))))))) = true := hh
    simp only [an_is] at hh
    rw [getT_at, getT_at]
    rcases big8 (i / 8 ^ n) with k | k | k | k | k | k | k | ⟨_, k⟩ <;> rw [k] <;> apply allP_ok
    · exact hh.1
    · exact hh.2.1
    · exact hh.2.2.1
    · exact hh.2.2.2.1
    · exact hh.2.2.2.2.1
    · exact hh.2.2.2.2.2.1
    · exact hh.2.2.2.2.2.2.1
    · exact hh.2.2.2.2.2.2.2
def isBad (fl : Bool) (nb e : Nat) (M : Tr (List Value) e) : Bool := an fl (an (Nat.ble 1 nb) ((slot e 0).get M fun row => match row with
  | [.bool true] => true
  | _ => false))
theorem isBad_is (h : isBad fl nb e M = true) (R : Rep I fl d n e τ T nb M F s vt m) : fl = true ∧ m[0]? = some [.bool true] ∧ I τ s true := by
  unfold isBad at h
  rw [an_is, an_is, slot_get] at h
  obtain ⟨hf, h1, h⟩ := h
  have h1 := Nat.le_of_ble_eq_true h1
  split at h
  · rename_i hr
    obtain ⟨b, hb, hI⟩ := R.iv hf
    have g := R.gm.get (show (toL e nb M)[0]? = some [.bool true] by rw [toL_at h1, hr]) hb
    have e1 := g.1.1
    cases e1
    exact ⟨hf, hb, hI⟩
  · cases h
/-! Names forgotten; what is worked out stays so. -/
def fg0K (v : Value) (K : Value → Bool) : Bool :=
  match v with
  | .tuple ⟨[.float .f64 _]⟩ => K (unk .i64)
  | .tuple ⟨[.agg _]⟩ => K (unk .i64)
  | v => K v
theorem fg0K_is (v : Value) (K : Value → Bool) : fg0K v K = K (fg0 v) := by
  unfold fg0K
  split
  · rfl
  · rfl
  · rename_i h1 h2
    unfold fg0
    split
    · exact absurd rfl (h1 _)
    · exact absurd rfl (h2 _)
    · rfl
def fgLK : List Value → (List Value → Bool) → Bool
  | [], K => K []
  | x :: l, K => fg0K x fun x => fgLK l fun l => K (x :: l)
theorem fgLK_is : ∀ (l : List Value) (K : List Value → Bool), fgLK l K = K (l.map fg0)
  | [], _ => rfl
  | x :: l, K => by
    show fg0K x (fun x => fgLK l fun l => K (x :: l)) = _
    rw [fg0K_is, fgLK_is l]
    rfl
def fg2K (v : Value) (K : Value → Bool) : Bool :=
  match v with
  | .tuple ⟨a :: b :: r⟩ => n2 (fg2 (.tuple ⟨a :: b :: r⟩)) K
  | .bool _ => K unkB
  | .agg ⟨l⟩ => fgLK l fun l => K (.agg ⟨l⟩)
  | v => fg0K v K
theorem fg2K_is (v : Value) (K : Value → Bool) : fg2K v K = K (fg2 v) := by
  unfold fg2K
  split
  · exact n2_is _ _
  · rfl
  · rw [fgLK_is]
    rfl
  · rename_i h1 h2 h3
    rw [fg0K_is]
    unfold fg2 fg1
    split
    · exact absurd rfl (h1 _ _ _)
    · exact absurd rfl (h2 _)
    · split
      · exact absurd rfl (h3 _)
      · rfl
/-- Ahead of a round: where the flow is bad, names are forgotten, so that ways fall together. -/
def fin (b : Bool) : Bool := Bool.casesOn (motive := fun _ => Bool) b false true
theorem fin_is (b : Bool) : fin b = b := by cases b <;> rfl
def frcD (fl : Bool) (d n e : Nat) (eq : EqT σ) (K : AK d e σ) : AK d e σ := fun T nb M F s =>
  Bool.casesOn (motive := fun _ => Bool) (isBad fl nb e M) (K T nb M F s) (Bool.casesOn (motive := fun _ => Bool) (eq.2.2.2 s) (mapK fg2K n d 0 T fun T => mapK fgLK nb e 0 M fun M => fin (K T nb M [] (eq.2.2.1 s))) (fin (K T nb M F s)))
theorem frcD_ok {eq : EqT σ} (heq : EqOk I eq) {K : AK d e σ} (h : frcD fl d n e eq K T nb M F s = true) (R : Rep I fl d n e τ T nb M F s vt m) : ∃ τ' T' M' F' s', K T' nb M' F' s' = true ∧ ExtF fl τ τ' ∧ Rep I fl d n e τ' T' nb M' F' s' vt m := by
  unfold frcD at h
  cases hb : isBad fl nb e M with
  | false =>
    rw [hb] at h
    exact ⟨τ, T, M, F, s, h, ExtF.refl _ _, R⟩
  | true =>
    rw [hb] at h
    dsimp only at h
    cases hd : eq.2.2.2 s with
    | true =>
      rw [hd] at h
      have h : fin (K T nb M F s) = true := h
      rw [fin_is] at h
      exact ⟨τ, T, M, F, s, h, ExtF.refl _ _, R⟩
    | false =>
    rw [hd] at h
    obtain ⟨hfl, hm, hI⟩ := isBad_is hb R
    obtain ⟨T', h, hT'⟩ := mapK_ok (g := fg2) fg2K_is n d 0 T _ h
    obtain ⟨M', h, hM'⟩ := mapK_ok (g := fun l => l.map fg0) fgLK_is nb e 0 M _ h
    rw [fin_is] at h
    obtain ⟨τ', hx, i'⟩ := heq.2 τ s hI
    refine ⟨τ', T', M', [], _, h, ⟨hx, fun e => (by rw [hfl] at e; cases e)⟩, ⟨?_, fun t => ?_⟩, ⟨?_, fun k l hl => ?_⟩, R.hb, fun f hf => (by cases hf), fun _ => ⟨true, hm, i'⟩⟩
    · rw [toL_len, ← R.gf.len, toL_len]
    · have g := R.gf.g t
      rw [List.getD_eq_getElem?_getD] at g ⊢
      by_cases ht : t < n
      · rw [toL_at ht] at g ⊢
        show G2 τ' (getT d T' t) _
        rcases hT' t with e | e
        · rw [e]
          exact (fg2_ok _ _ g).ext hx
        · rw [e]
          exact g.ext hx
      · rw [List.getElem?_eq_none (by rw [toL_len]; omega)] at g ⊢
        exact g.ext hx
    · rw [toL_len, ← R.gm.len, toL_len]
    · have hk : k < nb := by have := (List.getElem?_eq_some_iff.1 hl).1; rwa [toL_len] at this
      rw [toL_at hk] at hl
      cases hl
      obtain ⟨l', h1, h2⟩ := R.gm.g k _ (toL_at hk)
      rcases hM' k with e | e
      · rw [e]
        exact ⟨l', h1, (h2.onL (R := G0 τ) fg0_ok).imp fun _ _ k => k.ext hx⟩
      · rw [e]
        exact ⟨l', h1, h2.imp fun _ _ k => k.ext hx⟩
abbrev AQ (d e : Nat) (σ : Type) := Exit → AK d e σ
def hasLoop : Code → Bool
  | .loop _ => true
  | .seq x y => hasLoop x || hasLoop y
  | .cond _ x y => hasLoop x || hasLoop y
  | .block _ c => hasLoop c
  | _ => false
def loopD (fl : Bool) (d n e : Nat) (eq : EqT σ) (deep : Bool) : Nat → (AQ d e σ → AK d e σ) → AQ d e σ → AK d e σ
  | 0, _, _, _, _, _, _, _ => false
  | k + 1, G, Q, T, nb, M, F, s => G (fun e T nb M F s => match e with
    | .normal => (match deep || Nat.beq (k % 4) 0 with
      | true => frcD fl d n _ eq (loopD fl d n _ eq deep k G Q) T nb M F s
      | false => loopD fl d n _ eq deep k G Q T nb M F s)
    | e => Q e T nb M F s) T nb M F s
/-! Two ways that come together again, the flow being bad: the state is one that both fit. -/
def eqP : Value → Value → Bool
  | .pointer (some ⟨b, o, none⟩), .pointer (some ⟨b', o', none⟩) => Nat.beq b b' && Nat.beq o o'
  | .pointer none, .pointer none => true
  | _, _ => false
theorem eqP_is {a b : Value} (h : eqP a b = true) : a = b := by
  unfold eqP at h
  split at h
  · rw [Bool.and_eq_true] at h
    rw [Nat.eq_of_beq_eq_true h.1, Nat.eq_of_beq_eq_true h.2]
  · rfl
  · cases h
def lj0 (t s : Value) : Bool := le0 t s || teq t s || eqP t s
def lj1 (t s : Value) : Bool :=
  match s with
  | .agg cs => (match t with
    | .agg ds => allB lj0 ds.toList cs.toList
    | _ => false)
  | s => plain t && lj0 t s
def lj2 (t s : Value) : Bool :=
  match s with
  | .tuple ⟨a :: b :: r⟩ => (match t with
    | .tuple ⟨c :: d :: q⟩ => allB lj1 (c :: d :: q) (a :: b :: r)
    | _ => false)
  | s => notMulti t && lj1 t s
theorem lj0_ok {t s v : Value} (h : lj0 t s = true) (g : G0 τ t v) : G0 τ s v := by
  unfold lj0 at h
  rw [Bool.or_eq_true, Bool.or_eq_true] at h
  rcases h with (h | h) | h
  · exact le0_ok h g
  · rw [← teq_is h]; exact g
  · rw [← eqP_is h]; exact g
theorem lj1_ok {t s v : Value} (h : lj1 t s = true) (g : G1 τ t v) : G1 τ s v := by
  unfold lj1 at h
  split at h
  · split at h
    · obtain ⟨l, rfl, gl⟩ := g
      exact ⟨l, rfl, allB_ok (R := G0 τ) (fun _ _ _ h g => lj0_ok h g) h gl⟩
    · cases h
  · rw [Bool.and_eq_true] at h
    have g0 : G0 τ t v := by
      unfold G1 at g
      split at g
      · cases h.1
      · exact g
    exact (lj0_ok h.2 g0).g1
theorem lj2_ok {t s v : Value} (h : lj2 t s = true) (g : G2 τ t v) : G2 τ s v := by
  unfold lj2 at h
  split at h
  · split at h
    · obtain ⟨l, rfl, gl⟩ := g
      exact ⟨l, rfl, allB_ok (R := G1 τ) (fun _ _ _ h g => lj1_ok h g) h gl⟩
    · cases h
  · rw [Bool.and_eq_true] at h
    have g1 : G1 τ t v := by
      unfold G2 at g
      split at g
      · cases h.1
      · exact g
    exact (lj1_ok h.2 g1).g2

theorem Rep.lj (R : Rep I fl d n e τ T nb M F s vt m) {T' : Tr Value d} {M' : Tr (List Value) e} (h1 : allP lj2 d T T' = true) (h2 : allP (fun a b => allB lj0 a b) e M M' = true) : GF τ (toL d n T') vt ∧ GM τ (toL e nb M') m := by
  refine ⟨⟨by rw [toL_len, ← R.gf.len, toL_len], fun t => ?_⟩, ⟨by rw [toL_len, ← R.gm.len, toL_len], fun k l hl => ?_⟩⟩
  · have g := R.gf.g t
    rw [List.getD_eq_getElem?_getD] at g ⊢
    by_cases ht : t < n
    · rw [toL_at ht] at g ⊢
      exact lj2_ok (allP_ok d T T' h1 t) g
    · rw [List.getElem?_eq_none (by rw [toL_len]; omega)] at g ⊢
      exact g
  · have hk : k < nb := by have := (List.getElem?_eq_some_iff.1 hl).1; rwa [toL_len] at this
    rw [toL_at hk] at hl
    cases hl
    obtain ⟨l', q1, q2⟩ := R.gm.g k _ (toL_at hk)
    exact ⟨l', q1, allB_ok (R := G0 τ) (fun _ _ _ h g => lj0_ok h g) (allP_ok e M M' h2 k) q2⟩
def joinQ (eq : EqT σ) (J : Tr Value d) (nb : Nat) (M : Tr (List Value) e) (s : σ) : AQ d e σ := fun x T2 nb2 M2 _ s2 =>
  match x with
  | .normal => an (Nat.beq nb2 nb) (an (allP lj2 d T2 J) (an (allP (fun a b => allB lj0 a b) e M2 M) (eq.1 s s2)))
  | _ => false
def vsetK (d n : Nat) (c : Operand) (v : Value) (T : Tr Value d) (K : Tr Value d → Bool) : Bool :=
  match c with
  | .tmp t => (dstOf d n (some t)).set T v K
  | _ => K T
theorem vset_same {c : Operand} {b : Bool} (h : VE vt c = .bool b) : vset vt c b = vt := by
  cases c with
  | tmp t => exact set_same h
  | _ => rfl
theorem vsetK_ok (hn : n ≤ 8 ^ d) (R : Rep I fl d n e τ T nb M F s vt m) {c : Operand} {b : Bool} (hb : VE vt c = .bool b) {v : Value} (gv : G2 τ v (.bool b)) {K : Tr Value d → Bool} (h : vsetK d n c v T K = true) : ∃ T', K T' = true ∧ Rep I fl d n e τ T' nb M F s vt m := by
  cases c with
  | tmp t => exact R.setB hn hb gv h
  | _ => exact ⟨T, h, R⟩
/-- Code, ready to be run. -/
structure Cd (d e : Nat) (σ : Type) where
  run : AQ d e σ → AK d e σ
def regD (P : Program) (fl : Bool) (tbl : List (Rw σ)) (d n e : Nat) (dirty : Nat → List Nat) (id : Nat) (ops : Array Oper) (draw : Bool) : Cd d e σ :=
  match regOk P ops with
  | false => ⟨fun _ _ _ _ _ _ => false⟩
  | true => (match draw with
    | false => (match newCells P ops with
      | [] => ⟨fun Q T nb M F s => (seqN P fl tbl d n e ops (List.range ops.size)).run nb (Q .normal) T nb M F s⟩
      | ns => ⟨fun Q T nb M F s => an (Nat.ble (Nat.add nb ns.length) (8 ^ e)) (moreK e ns nb M fun nb' M => nN nb' fun nb' => (seqN P fl tbl d n e ops (List.range ops.size)).run nb (Q .normal) T nb' M F s)⟩)
    | true => ⟨fun Q => dregion P fl tbl d n e dirty id ops true (Q .normal)⟩)
def seqQ (y : Cd d e σ) (Q : AQ d e σ) : AQ d e σ := fun x T nb M F s =>
  match x with
  | .normal => y.run Q T nb M F s
  | x => Q x T nb M F s
def blockQ (id : Nat) (Q : AQ d e σ) : AQ d e σ := fun x T nb M F s =>
  match x with
  | .exit id' => if id' = id then Q .normal T nb M F s else Q (.exit id') T nb M F s
  | x => Q x T nb M F s
def condB (fl : Bool) (d n e : Nat) (eq : EqT σ) (c : Operand) (x y : Cd d e σ) (Q : AQ d e σ) (T : Tr Value d) (nb : Nat) (M : Tr (List Value) e) (F : Fct) (s : σ) : Bool :=
  an (isBad fl nb e M) (vsetK d n c unkB T fun J => an (vsetK d n c (.bool true) T fun T => x.run (joinQ eq J nb M s) T nb M F s) (an (vsetK d n c (.bool false) T fun T => y.run (joinQ eq J nb M s) T nb M F s) (Q .normal J nb M F (eq.2.1 s))))
def condU (fl : Bool) (d n e : Nat) (eq : EqT σ) (c : Operand) (x y : Cd d e σ) (Q : AQ d e σ) (T : Tr Value d) (nb : Nat) (M : Tr (List Value) e) (F : Fct) (s : σ) (v : Value) : Bool :=
  an (boolA v) (condB fl d n e eq c x y Q T nb M F s || an (vsetK d n c (.bool true) T fun T => x.run Q T nb M F s) (vsetK d n c (.bool false) T fun T => y.run Q T nb M F s))
def condD (fl : Bool) (d n e : Nat) (eq : EqT σ) (c : Operand) (x y : Cd d e σ) : Cd d e σ :=
  match okA c with
  | true => ⟨fun Q T nb M F s => (opOf d n c).get T fun v => (match v with
    | .bool b => Bool.casesOn (motive := fun _ => Bool) b (y.run Q T nb M F s) (x.run Q T nb M F s)
    | v => condU fl d n e eq c x y Q T nb M F s v)⟩
  | false => ⟨fun _ _ _ _ _ _ => false⟩
def dsw (P : Program) (fl : Bool) (tbl : List (Rw σ)) (d n e : Nat) (dirty : Nat → List Nat) (lim : Nat) (eq : EqT σ) : Code → Cd d e σ
  | .skip => ⟨fun Q => Q .normal⟩
  | .region id ops draw => regD P fl tbl d n e dirty id ops draw
  | .seq x y => ⟨fun Q => (dsw P fl tbl d n e dirty lim eq x).run (seqQ (dsw P fl tbl d n e dirty lim eq y) Q)⟩
  | .cond c x y => condD fl d n e eq c (dsw P fl tbl d n e dirty lim eq x) (dsw P fl tbl d n e dirty lim eq y)
  | .block id c => ⟨fun Q => (dsw P fl tbl d n e dirty lim eq c).run (blockQ id Q)⟩
  | .loop c => ⟨loopD fl d n e eq (hasLoop c) lim (dsw P fl tbl d n e dirty lim eq c).run⟩
  | .exit id => ⟨fun Q => Q (.exit id)⟩
  | .label _ => ⟨fun Q => Q .normal⟩
  | .ret => ⟨fun Q => Q .ret⟩
  | _ => ⟨fun _ _ _ _ _ _ => false⟩
theorem regD_is {dirty : Nat → List Nat} {id : Nat} {ops : Array Oper} {draw : Bool} {Q : AQ d e σ} (h : (regD P fl tbl d n e dirty id ops draw).run Q T nb M F s = true) (R : Rep I fl d n e τ T nb M F s vt m) : dregion P fl tbl d n e dirty id ops draw (Q .normal) T nb M F s = true := by
  unfold regD at h
  unfold dregion
  split at h
  · cases h
  · rename_i hr
    split at h
    · split at h
      · rename_i hns
        rw [hns, an_is]
        refine ⟨Nat.ble_eq_true_of_le R.hb, ?_⟩
        show nN nb (fun nb' => (seqN P fl tbl d n e ops (List.range ops.size)).run nb (Q .normal) T nb' M F s) = true
        rw [nN_is]
        exact h
      · exact h
    · have h : dregion P fl tbl d n e dirty id ops true (Q .normal) T nb M F s = true := h
      unfold dregion at h
      rw [hr] at h
      exact h
def Pe (I : List Int → σ → Bool → Prop) (fl : Bool) (d n e : Nat) (τ : List Int) (Q : AQ d e σ) (S : VQ → Prop) : Prop :=
  ∃ x vt' m' τ' T' nb' M' F' s', Q x T' nb' M' F' s' = true ∧ ExtF fl τ τ' ∧ Rep I fl d n e τ' T' nb' M' F' s' vt' m' ∧ ∀ Q' : VQ, Q' x vt' m' → S Q'
theorem Pe.imp {Q : AQ d e σ} {S S2 : VQ → Prop} (h : Pe I fl d n e τ Q S) (hi : ∀ Q', S Q' → S2 Q') : Pe I fl d n e τ Q S2 := by
  obtain ⟨x, vt1, m1, τ1, T1, nb1, M1, F1, s1, h1, x1, R1, k1⟩ := h
  exact ⟨x, vt1, m1, τ1, T1, nb1, M1, F1, s1, h1, x1, R1, fun K' hK => hi _ (k1 K' hK)⟩
theorem dsw_ok (hn : n ≤ 8 ^ d) {dirty : Nat → List Nat} {lim : Nat} {eq : EqT σ} (heq : EqOk I eq) : ∀ (c : Code) (Q : AQ d e σ) (τ : List Int) (T : Tr Value d) (nb : Nat) (M : Tr (List Value) e) (F : Fct) (s : σ) (vt : List Value) (m : Xm), (dsw P fl tbl d n e dirty lim eq c).run Q T nb M F s = true → Rep I fl d n e τ T nb M F s vt m →
    Pe I fl d n e τ Q (fun Q' => swp P (cts P tbl hT) dirty lim c Q' vt m) := by
  intro c
  induction c with
  | skip => intro Q τ T nb M F s vt m h R; exact ⟨.normal, vt, m, τ, T, nb, M, F, s, h, ExtF.refl _ _, R, fun _ hQ => hQ⟩
  | region id ops draw =>
    intro Q τ T nb M F s vt m h R
    obtain ⟨vt', m', τ', T', nb', M', F', s', h2, hx, R2, hs⟩ := dregion_ok (hT := hT) hn (regD_is h R) R
    exact ⟨.normal, vt', m', τ', T', nb', M', F', s', h2, hx, R2, fun Q' hQ => hs (Q' .normal) hQ⟩
  | seq x y ihx ihy =>
    intro Q τ T nb M F s vt m h R
    obtain ⟨x1, vt', m', τ', T', nb', M', F', s', h2, hx, R2, hs⟩ := ihx _ τ T nb M F s vt m h R
    cases x1 with
    | normal =>
      obtain ⟨x3, vt3, m3, τ3, T3, nb3, M3, F3, s3, h3, hx3, R3, hs3⟩ := ihy Q τ' T' nb' M' F' s' vt' m' h2 R2
      exact ⟨x3, vt3, m3, τ3, T3, nb3, M3, F3, s3, h3, hx.trans hx3, R3, fun Q' hQ => hs _ (hs3 Q' hQ)⟩
    | exit id => exact ⟨_, vt', m', τ', T', nb', M', F', s', h2, hx, R2, fun Q' hQ => hs _ hQ⟩
    | goto l => exact ⟨_, vt', m', τ', T', nb', M', F', s', h2, hx, R2, fun Q' hQ => hs _ hQ⟩
    | ret => exact ⟨_, vt', m', τ', T', nb', M', F', s', h2, hx, R2, fun Q' hQ => hs _ hQ⟩
    | panic ch => exact ⟨_, vt', m', τ', T', nb', M', F', s', h2, hx, R2, fun Q' hQ => hs _ hQ⟩
    | outgrown => exact ⟨_, vt', m', τ', T', nb', M', F', s', h2, hx, R2, fun Q' hQ => hs _ hQ⟩
  | cond c x y ihx ihy =>
    intro Q τ T nb M F s vt m h R
    unfold dsw condD at h
    split at h
    · rename_i hok
      dsimp only at h
      rw [opOf_is] at h
      have g := R.gf.ev hok
      have go : ∀ (Q : AQ d e σ) (T : Tr Value d) (b : Bool), VE vt c = .bool b → Rep I fl d n e τ T nb M F s vt m → (match b with
        | true => (dsw P fl tbl d n e dirty lim eq x).run Q T nb M F s
        | false => (dsw P fl tbl d n e dirty lim eq y).run Q T nb M F s) = true → Pe I fl d n e τ Q (fun Q' => swp P (cts P tbl hT) dirty lim (.cond c x y) Q' vt m) := by
        intro Q T b hb R hh
        cases b with
        | true =>
          refine (ihx Q τ T nb M F s vt m hh R).imp fun Q' hQ => ?_
          unfold swp
          rw [okA_okX hok, hb]
          show swp P (cts P tbl hT) dirty lim x Q' (vset vt c true) m
          rw [vset_same hb]
          exact hQ
        | false =>
          refine (ihy Q τ T nb M F s vt m hh R).imp fun Q' hQ => ?_
          unfold swp
          rw [okA_okX hok, hb]
          show swp P (cts P tbl hT) dirty lim y Q' (vset vt c false) m
          rw [vset_same hb]
          exact hQ
      split at h
      · rename_i b hv
        rw [hv] at g
        refine go Q T b g.bool R ?_
        cases b
        · exact h
        · exact h
      · unfold condU at h
        rw [an_is, Bool.or_eq_true] at h
        obtain ⟨b, hb⟩ := boolA_is h.1 g
        rcases h.2 with h2 | h2
        · unfold condB at h2
          rw [an_is] at h2
          obtain ⟨hbad, h2⟩ := h2
          obtain ⟨J, h2, RJ⟩ := vsetK_ok hn R hb .unkB h2
          simp only [an_is] at h2
          obtain ⟨hx, hy, hQ⟩ := h2
          have fin : Pe I fl d n e τ (joinQ eq J nb M s) (fun Q' => swp P (cts P tbl hT) dirty lim (.cond c x y) Q' vt m) := by
            cases b with
            | true =>
              obtain ⟨T', h3, R3⟩ := vsetK_ok hn R hb (v := .bool true) ⟨rfl, rfl⟩ hx
              exact go _ T' true hb R3 h3
            | false =>
              obtain ⟨T', h3, R3⟩ := vsetK_ok hn R hb (v := .bool false) ⟨rfl, rfl⟩ hy
              exact go _ T' false hb R3 h3
          obtain ⟨x1, vt', m', τ', T', nb', M', F', s', h2, hxt, R2, hs⟩ := fin
          unfold joinQ at h2
          split at h2
          · simp only [an_is] at h2
            obtain ⟨hnb, hj1, hj2, he⟩ := h2
            have hnb := Nat.eq_of_beq_eq_true hnb
            subst hnb
            obtain ⟨g1, g2⟩ := R2.lj hj1 hj2
            have hfl : fl = true := by
              unfold isBad at hbad
              rw [an_is] at hbad
              exact hbad.1
            obtain ⟨b', i1, i2⟩ := R2.iv hfl
            have hb' : b' = true := by
              have R3 : Rep I fl d n e τ' J nb' M F' s' vt' m' := ⟨g1, g2, R2.hb, R2.ff, R2.iv⟩
              obtain ⟨_, hm, _⟩ := isBad_is hbad R3
              rw [i1] at hm
              cases hm
              rfl
            subst hb'
            obtain ⟨τ4, hx4, i4⟩ := heq.1 _ _ _ he i2
            exact ⟨.normal, vt', m', τ4, J, nb', M, F, eq.2.1 s, hQ, hxt.trans ⟨hx4, fun e => (by rw [hfl] at e; cases e)⟩, ⟨g1.ext hx4, g2.ext hx4, R2.hb, (R.ff.ext hxt.1).ext hx4, fun _ => ⟨true, i1, i4⟩⟩, hs⟩
          · cases h2
        · rw [an_is] at h2
          cases b with
          | true =>
            obtain ⟨T', h3, R3⟩ := vsetK_ok hn R hb (v := .bool true) ⟨rfl, rfl⟩ h2.1
            exact go Q T' true hb R3 h3
          | false =>
            obtain ⟨T', h3, R3⟩ := vsetK_ok hn R hb (v := .bool false) ⟨rfl, rfl⟩ h2.2
            exact go Q T' false hb R3 h3
    · cases h
  | block id c ih =>
    intro Q τ T nb M F s vt m h R
    obtain ⟨x1, vt', m', τ', T', nb', M', F', s', h2, hx, R2, hs⟩ := ih _ τ T nb M F s vt m h R
    cases x1 with
    | exit id' =>
      have h2 : (if id' = id then Q .normal T' nb' M' F' s' else Q (.exit id') T' nb' M' F' s') = true := h2
      split at h2
      · rename_i e
        refine ⟨.normal, vt', m', τ', T', nb', M', F', s', h2, hx, R2, fun Q' hQ => hs _ ?_⟩
        dsimp only
        rw [if_pos e]
        exact hQ
      · rename_i e
        refine ⟨.exit id', vt', m', τ', T', nb', M', F', s', h2, hx, R2, fun Q' hQ => hs _ ?_⟩
        dsimp only
        rw [if_neg e]
        exact hQ
    | normal => exact ⟨_, vt', m', τ', T', nb', M', F', s', h2, hx, R2, fun Q' hQ => hs _ hQ⟩
    | goto l => exact ⟨_, vt', m', τ', T', nb', M', F', s', h2, hx, R2, fun Q' hQ => hs _ hQ⟩
    | ret => exact ⟨_, vt', m', τ', T', nb', M', F', s', h2, hx, R2, fun Q' hQ => hs _ hQ⟩
    | panic ch => exact ⟨_, vt', m', τ', T', nb', M', F', s', h2, hx, R2, fun Q' hQ => hs _ hQ⟩
    | outgrown => exact ⟨_, vt', m', τ', T', nb', M', F', s', h2, hx, R2, fun Q' hQ => hs _ hQ⟩
  | loop c ih =>
    intro Q τ T nb M F s vt m h R
    have key : ∀ k τ T nb M F s vt m, loopD fl d n e eq (hasLoop c) k (dsw P fl tbl d n e dirty lim eq c).run Q T nb M F s = true → Rep I fl d n e τ T nb M F s vt m → Pe I fl d n e τ Q (fun Q' => loopN k (swp P (cts P tbl hT) dirty lim c) Q' vt m) := by
      intro k
      induction k with
      | zero => intro τ T nb M F s vt m h; cases h
      | succ k ihk =>
        intro τ T nb M F s vt m h R
        obtain ⟨x1, vt', m', τ', T', nb', M', F', s', h2, hx, R2, hs⟩ := ih _ τ T nb M F s vt m h R
        cases x1 with
        | normal =>
          dsimp only at h2
          have h2 : ∃ τ4 T4 M4 F4 s4, loopD fl d n e eq (hasLoop c) k (dsw P fl tbl d n e dirty lim eq c).run Q T4 nb' M4 F4 s4 = true ∧ ExtF fl τ' τ4 ∧ Rep I fl d n e τ4 T4 nb' M4 F4 s4 vt' m' := by
            split at h2
            · exact frcD_ok heq h2 R2
            · exact ⟨_, _, _, _, _, h2, ExtF.refl _ _, R2⟩
          obtain ⟨τ4, T4, M4, F4, s4, h4, hx4, R4⟩ := h2
          obtain ⟨x3, vt3, m3, τ3, T3, nb3, M3, F3, s3, h3, hx3, R3, hs3⟩ := ihk τ4 T4 nb' M4 F4 s4 vt' m' h4 R4
          exact ⟨x3, vt3, m3, τ3, T3, nb3, M3, F3, s3, h3, (hx.trans hx4).trans hx3, R3, fun Q' hQ => hs _ (hs3 Q' hQ)⟩
        | exit id => exact ⟨_, vt', m', τ', T', nb', M', F', s', h2, hx, R2, fun Q' hQ => hs _ hQ⟩
        | goto l => exact ⟨_, vt', m', τ', T', nb', M', F', s', h2, hx, R2, fun Q' hQ => hs _ hQ⟩
        | ret => exact ⟨_, vt', m', τ', T', nb', M', F', s', h2, hx, R2, fun Q' hQ => hs _ hQ⟩
        | panic ch => exact ⟨_, vt', m', τ', T', nb', M', F', s', h2, hx, R2, fun Q' hQ => hs _ hQ⟩
        | outgrown => exact ⟨_, vt', m', τ', T', nb', M', F', s', h2, hx, R2, fun Q' hQ => hs _ hQ⟩
    exact key lim τ T nb M F s vt m h R
  | exit id => intro Q τ T nb M F s vt m h R; exact ⟨.exit id, vt, m, τ, T, nb, M, F, s, h, ExtF.refl _ _, R, fun _ hQ => hQ⟩
  | label l => intro Q τ T nb M F s vt m h R; exact ⟨.normal, vt, m, τ, T, nb, M, F, s, h, ExtF.refl _ _, R, fun _ hQ => hQ⟩
  | ret => intro Q τ T nb M F s vt m h R; exact ⟨.ret, vt, m, τ, T, nb, M, F, s, h, ExtF.refl _ _, R, fun _ hQ => hQ⟩
  | goto l => intro Q τ T nb M F s vt m h; cases h
  | scope c _ => intro Q τ T nb M F s vt m h; cases h
  | refuse t => intro Q τ T nb M F s vt m h; cases h
  | rangeFunc f ps x y _ _ => intro Q τ T nb M F s vt m h; cases h
end
end Go.Proofs.YtoadcnhcfodkgaaGreatDoor.Nx
