/- A part. -/
import Derived.Test.YtbophanlmkbfeaaGreatDoorHC07
namespace Go.Proofs.YtbophanlmkbfeaaGreatDoor
open Go.RowKit
section
variable {P : Program} {nq NQ : (Nat → Int) → Prop} {τ : Nat → Int}
def forkM (fl : Bool) (o : Oper) (ρ : Operand → Value) (m : Xm) : List Xm :=
 match o.op with
 | .load _ x => (match ρ x with
  | .pointer (some ⟨0, 0, none⟩) => (match fl, m[0]? with
   | true, some [c] => (match tkn c with
    | some (none, 0) => [m.set 0 [.bool true], m.set 0 [.bool false]]
    | _ => [m])
   | _, _ => [m])
  | _ => [m])
 | _ => [m]
theorem GM.bool0 {am m : Xm} (M : GM τ am m) {b : Bool} (h : m[0]? = some [.bool b]) : GM τ (am.set 0 [.bool b]) m := by
 have e : m.set 0 [.bool b] = m := by
  have hl := (List.getElem?_eq_some_iff.1 h).1
  rw [← (List.getElem?_eq_some_iff.1 h).2]
  exact List.set_getElem_self hl
 have := M.set 0 (l := [.bool b]) (l' := [.bool b]) ⟨⟨rfl, rfl⟩, trivial⟩
 rwa [e] at this
theorem forkM_ok {fl b0 : Bool} {o : Oper} {ρ : Operand → Value} {am m : Xm} (M : GM τ am m) (I : Inv NQ fl b0 τ m) : ∃ am' ∈ forkM fl o ρ am, GM τ am' m := by
 have same : ∃ am' ∈ [am], GM τ am' m := ⟨am, List.mem_singleton.2 rfl, M⟩
 unfold forkM
 split
 ·split
  ·split
   ·split
    ·obtain ⟨b, h, _⟩ := I rfl
     refine ⟨am.set 0 [.bool b], ?_, M.bool0 h⟩
     cases b <;> simp
    ·exact same
   ·exact same
  ·exact same
 ·exact same
def erIf (e : Bool) (at' : List Value) : List Value :=
 match e with
 | true => at'.map er2
 | false => at'
theorem GF.erIf {e : Bool} {τ' : Nat → Int} {at' vt : List Value} (F : GF τ at' vt) (h : e = false → τ' = τ) : GF τ' (erIf e at') vt := by
 cases e with
 | true => exact F.er
 | false => rw [h rfl]; exact F
def allT {α : Type} (f : α → Bool) : List α → Bool
 | [] => true
 | [x] => f x
 | x :: y :: l => f x && allT f (y :: l)
theorem allT_is {α : Type} {f : α → Bool} : ∀ {l : List α}, allT f l = true → ∀ x ∈ l, f x = true
 | [], _, x, hx => by cases hx
 | [y], h, x, hx => by
  rw [List.mem_singleton.1 hx]
  exact h
 | y :: z :: l, h, x, hx => by
  rw [allT, Bool.and_eq_true] at h
  rcases List.mem_cons.1 hx with rfl | hx
  ·exact h.1
  ·exact allT_is h.2 x hx
def aop (P : Program) (fl : Bool) (tbl : List (ACt P nq)) (id : Nat) (o : Oper) (at' : List Value) (m : Xm) (K : List Value → Xm → Bool) : Bool :=
 allT (fun m1 =>
  match aq P (fun _ => true) id o (VE at') m1 with
  | some v => K (vput at' o.dst v) m1
  | none =>
   match aa P fl tbl id o (VE at') m1 with
   | some (v, m', e) => K (vput (erIf e at') o.dst v) m'
   | none => false) (forkM fl o (VE at') m)
def Pnt (NQ : (Nat → Int) → Prop) (fl b0 : Bool) (K : List Value → Xm → Bool) (S : (List Value → Xm → Prop) → Prop) : Prop :=
 ∃ vt' m' τ' at' am', K at' am' = true ∧ GF τ' at' vt' ∧ GM τ' am' m' ∧ Inv NQ fl b0 τ' m' ∧ ∀ K' : List Value → Xm → Prop, K' vt' m' → S K'
theorem aop_ok (hNQ : ∀ τ, nq τ → NQ τ) {fl b0 : Bool} {tbl : List (ACt P nq)} {id : Nat} {o : Oper} {at' vt : List Value} {am m : Xm} {K : List Value → Xm → Bool} (h : aop P fl tbl id o at' am K = true) (F : GF τ at' vt) (M : GM τ am m) (I : Inv NQ fl b0 τ m) :
    Pnt NQ fl b0 K (vop P (cts tbl) id o vt m) := by
 obtain ⟨am1, hm, M1⟩ := forkM_ok (o := o) (ρ := VE at') M I
 have h1 := allT_is h am1 hm
 split at h1
 ·rename_i v hv
  obtain ⟨u, hu, gu⟩ := aq_ok hv F M1
  refine ⟨_, m, τ, _, am1, h1, F.put o.dst gu, M1, I, fun K' hK => ?_⟩
  unfold vop
  rw [hu]
  exact hK
 ·rename_i hq
  split at h1
  ·rename_i v am2 e ha
   obtain ⟨u, m2, τ', hsp, gu, M2, I2, he⟩ := aa_ok hNQ ha F M1 I
   refine ⟨_, m2, τ', _, am2, h1, (F.erIf he).put o.dst gu, M2, I2, fun K' hK => ?_⟩
   unfold vop
   rw [vq_none (m := m) ha hq F]
   exact hsp _ hK
  ·cases h1
def aseq (P : Program) (fl : Bool) (tbl : List (ACt P nq)) (ops : Array Oper) (ids : Nat → Nat) (K : List Value → Xm → Bool) : List Nat → List Value → Xm → Bool
 | [], at', m => K at' m
 | i :: rest, at', m =>
  match ops[i]? with
  | none => aseq P fl tbl ops ids K rest at' m
  | some o =>
   match o.guard with
   | none => aop P fl tbl (ids i) o at' m (aseq P fl tbl ops ids K rest)
   | some (g, want) =>
    match (ops[g]?).bind (·.dst) with
    | none => false
    | some d =>
     match at'.getD d undef with
     | .bool x => (match x == want with
      | true => aop P fl tbl (ids i) o (at'.set d (.bool x)) m (aseq P fl tbl ops ids K rest)
      | false => aseq P fl tbl ops ids K rest (vput (at'.set d (.bool x)) o.dst undef) m)
     | .tuple ⟨[]⟩ => aseq P fl tbl ops ids K rest (vput at' o.dst undef) m
     | c => boolA c && aop P fl tbl (ids i) o (at'.set d (.bool want)) m (aseq P fl tbl ops ids K rest) && aseq P fl tbl ops ids K rest (vput (at'.set d (.bool !want)) o.dst undef) m
theorem vseq_at {ops : Array Oper} {tbl : List (Ct P)} {ids : Nat → Nat} {K : List Value → Xm → Prop} {i : Nat} {rest : List Nat} {vt : List Value} {m : Xm} {o : Oper} (ho : ops[i]? = some o) {g : Nat} {want : Bool} (hg : o.guard = some (g, want)) {d : Nat} (hd : (ops[g]?).bind (·.dst) = some d) {x : Bool} (hx : vt.getD d undef = .bool x)
    (h : match x == want with
      | true => vop P tbl (ids i) o (vt.set d (.bool x)) m (vseq P tbl ops ids K rest)
      | false => vseq P tbl ops ids K rest (vput (vt.set d (.bool x)) o.dst undef) m) : vseq P tbl ops ids K (i :: rest) vt m := by
 unfold vseq
 rw [ho]
 dsimp only
 rw [hg]
 dsimp only
 rw [hd]
 dsimp only
 rw [hx]
 cases x <;> cases want <;> exact h
theorem aseq_ok (hNQ : ∀ τ, nq τ → NQ τ) {fl b0 : Bool} {tbl : List (ACt P nq)} {ops : Array Oper} {ids : Nat → Nat} {K : List Value → Xm → Bool} : ∀ (is : List Nat) (τ : Nat → Int) (at' vt : List Value) (am m : Xm), aseq P fl tbl ops ids K is at' am = true → GF τ at' vt → GM τ am m → Inv NQ fl b0 τ m →
    Pnt NQ fl b0 K (fun K' => vseq P (cts tbl) ops ids K' is vt m)
 | [], τ, at', vt, am, m, h, F, M, I => ⟨vt, m, τ, at', am, h, F, M, I, fun _ hK => hK⟩
 | i :: rest, τ, at', vt, am, m, h, F, M, I => by
  unfold aseq at h
  split at h
  ·rename_i ho
   obtain ⟨vt', m', τ', at2, am2, h1, F1, M1, I1, hs⟩ := aseq_ok hNQ rest τ at' vt am m h F M I
   refine ⟨vt', m', τ', at2, am2, h1, F1, M1, I1, fun K' hK => ?_⟩
   unfold vseq
   rw [ho]
   exact hs K' hK
  ·rename_i o ho
   have one : ∀ (at1 vt1 : List Value), aop P fl tbl (ids i) o at1 am (aseq P fl tbl ops ids K rest) = true → GF τ at1 vt1 → Pnt NQ fl b0 K (fun K' => vop P (cts tbl) (ids i) o vt1 m (vseq P (cts tbl) ops ids K' rest)) := by
    intro at1 vt1 h1 F1
    obtain ⟨vt', m', τ', at2, am2, h2, F2, M2, I2, hs⟩ := aop_ok hNQ h1 F1 M I
    obtain ⟨vt3, m3, τ3, at3, am3, h3, F3, M3, I3, hs3⟩ := aseq_ok hNQ rest τ' at2 vt' am2 m' h2 F2 M2 I2
    exact ⟨vt3, m3, τ3, at3, am3, h3, F3, M3, I3, fun K' hK => hs _ (hs3 K' hK)⟩
   split at h
   ·rename_i hg
    obtain ⟨vt', m', τ', at2, am2, h2, F2, M2, I2, hs⟩ := one at' vt h F
    refine ⟨vt', m', τ', at2, am2, h2, F2, M2, I2, fun K' hK => ?_⟩
    unfold vseq
    rw [ho]
    dsimp only
    rw [hg]
    exact hs K' hK
   ·rename_i g want hg
    split at h
    ·cases h
    ·rename_i d hd
     have side : ∀ x : Bool, vt.getD d undef = .bool x → (match x == want with
      | true => aop P fl tbl (ids i) o (at'.set d (.bool x)) am (aseq P fl tbl ops ids K rest)
      | false => aseq P fl tbl ops ids K rest (vput (at'.set d (.bool x)) o.dst undef) am) = true → Pnt NQ fl b0 K (fun K' => vseq P (cts tbl) ops ids K' (i :: rest) vt m) := by
      intro x hx hh
      have F1 : GF τ (at'.set d (.bool x)) (vt.set d (.bool x)) := F.set d ⟨rfl, rfl⟩
      cases hw : (x == want) with
      | true =>
       rw [hw] at hh
       obtain ⟨vt', m', τ', at2, am2, h2, F2, M2, I2, hs⟩ := one _ _ hh F1
       exact ⟨vt', m', τ', at2, am2, h2, F2, M2, I2, fun K' hK => vseq_at ho hg hd hx (by rw [hw]; exact hs K' hK)⟩
      | false =>
       rw [hw] at hh
       obtain ⟨vt', m', τ', at2, am2, h2, F2, M2, I2, hs⟩ := aseq_ok hNQ rest τ _ _ am m hh (F1.put o.dst (real2_same (t := undef) rfl)) M I
       exact ⟨vt', m', τ', at2, am2, h2, F2, M2, I2, fun K' hK => vseq_at ho hg hd hx (by rw [hw]; exact hs K' hK)⟩
     have gd := F.g d
     split at h
     ·rename_i x hx
      rw [hx] at gd
      exact side x gd.bool h
     ·rename_i hx
      rw [hx] at gd
      have gd : vt.getD d undef = .tuple ⟨[]⟩ := gd.1
      obtain ⟨vt', m', τ', at2, am2, h2, F2, M2, I2, hs⟩ := aseq_ok hNQ rest τ _ _ am m h (F.put o.dst (real2_same (t := undef) rfl)) M I
      refine ⟨vt', m', τ', at2, am2, h2, F2, M2, I2, fun K' hK => ?_⟩
      unfold vseq
      rw [ho]
      dsimp only
      rw [hg]
      dsimp only
      rw [hd]
      dsimp only
      rw [gd]
      exact hs K' hK
     ·rename_i c hc1 hc
      simp only [Bool.and_eq_true] at h
      obtain ⟨x, hx⟩ := boolA_is h.1.1 gd
      refine side x hx ?_
      cases x <;> cases want <;> first | exact h.1.2 | exact h.2
def forkG (ops : Array Oper) (o : Oper) (at' : List Value) : List (List Value) :=
 match o.guard with
 | none => [at']
 | some (g, _) =>
  match (ops[g]?).bind (·.dst) with
  | none => []
  | some d =>
   match at'.getD d undef with
   | .bool _ => [at']
   | .tuple ⟨[]⟩ => [at']
   | c => (match boolA c with
    | true => [at'.set d (.bool true), at'.set d (.bool false)]
    | false => [])
def wantedA (ops : Array Oper) (o : Oper) (at' : List Value) : Bool :=
 match o.guard with
 | none => true
 | some (g, want) =>
  match (ops[g]?).bind (·.dst) with
  | none => false
  | some d =>
   match at'.getD d undef with
   | .bool x => x == want
   | _ => false
theorem GF.setSame {at' vt : List Value} (F : GF τ at' vt) {d : Nat} {t : Value} (g : G2 τ t (vt.getD d undef)) : GF τ (at'.set d t) vt := by
 refine ⟨by rw [List.length_set]; exact F.len, fun i => ?_⟩
 have hl := F.len
 by_cases e : d = i
 ·subst e
  by_cases hd : d < at'.length
  ·rw [List.getD_eq_getElem?_getD, List.getElem?_set_self hd]
   exact g
  ·have := F.g d
   rw [List.getD_eq_getElem?_getD, List.getElem?_eq_none (by omega)] at this
   rw [List.getD_eq_getElem?_getD, List.getElem?_eq_none (by rw [List.length_set]; omega)]
   exact this
 ·have := F.g i
  rw [List.getD_eq_getElem?_getD] at this ⊢
  rw [List.getElem?_set_ne e]
  exact this
theorem forkG_ok {ops : Array Oper} {o : Oper} {at' vt : List Value} (F : GF τ at' vt) (hne : forkG ops o at' ≠ []) : ∃ at1 ∈ forkG ops o at', GF τ at1 vt ∧ Region.wanted o (yieldedV ops vt) = wantedA ops o at1 := by
 unfold forkG at hne ⊢
 unfold Region.wanted wantedA
 split at hne
 ·rename_i hg
  refine ⟨at', List.mem_singleton.2 rfl, F, ?_⟩
  rw [hg]
 ·rename_i g want hg
  rw [hg]
  dsimp only
  split at hne
  ·exact absurd rfl hne
  ·rename_i d hd
   have gd := F.g d
   have yv : ∀ x, vt.getD d undef = .bool x → yieldedV ops vt g = some x := fun x hx => by
    unfold yieldedV
    rw [hd]
    dsimp only
    rw [hx]
    rfl
   have fin : ∀ x, (some x == some want) = (x == want) := fun x => by cases x <;> cases want <;> rfl
   split at hne
   ·rename_i x hx
    rw [hx] at gd
    refine ⟨at', List.mem_singleton.2 rfl, F, ?_⟩
    rw [yv x gd.bool, hx]
    exact fin x
   ·rename_i hx
    rw [hx] at gd
    have gd : vt.getD d undef = .tuple ⟨[]⟩ := gd.1
    refine ⟨at', List.mem_singleton.2 rfl, F, ?_⟩
    have y0 : yieldedV ops vt g = none := by
     unfold yieldedV
     rw [hd]
     dsimp only
     rw [gd]
     rfl
    rw [y0, hx]
    rfl
   ·rename_i c hc1 hc
    split at hne
    ·rename_i hb
     obtain ⟨x, hx⟩ := boolA_is hb gd
     refine ⟨at'.set d (.bool x), by cases x <;> simp, F.setSame (by rw [hx]; exact ⟨rfl, rfl⟩), ?_⟩
     rw [yv x hx]
     by_cases hl : d < at'.length
     ·rw [List.getD_eq_getElem?_getD, List.getElem?_set_self hl]
      exact fin x
     ·have e0 : at'.getD d undef = undef := by rw [List.getD_eq_getElem?_getD, List.getElem?_eq_none (Nat.le_of_not_lt hl)]; rfl
      rw [e0] at hb
      cases hb
    ·exact absurd rfl hne
def notNil {α : Type} : List α → Bool
 | [] => false
 | _ :: _ => true
def adraw (P : Program) (fl : Bool) (tbl : List (ACt P nq)) (ops : Array Oper) (ids : Nat → Nat) (cl dd : Nat → Bool) (two : Bool) (K : List Value → Xm → Bool) : List Stp → List Value → Xm → Bool
 | [], at', m => K at' m
 | (j, fr, al) :: js, at', m =>
  match ops[j]? with
  | none => false
  | some o => notNil (forkG ops o at') && allT (fun at1 => allT (fun m1 =>
   match (match wantedA ops o at1 with
    | true => aq P (lco cl dd two o) (ids j) o (VE at1) m1
    | false => some undef) with
   | some v => fr && adraw P fl tbl ops ids cl dd two K js (vput at1 o.dst v) m1
   | none =>
    (match al && (vw (ids j) o (VE at1)).all (fun k => !gco cl dd two o k), aa P fl tbl (ids j) o (VE at1) m1 with
    | true, some (v, m', e) => adraw P fl tbl ops ids cl dd two K js (vput (erIf e at1) o.dst v) m'
    | _, _ => false)) (forkM fl o (VE at1) m)) (forkG ops o at')
theorem adraw_ok (hNQ : ∀ τ, nq τ → NQ τ) {fl b0 : Bool} {tbl : List (ACt P nq)} {ops : Array Oper} {ids : Nat → Nat} {cl dd : Nat → Bool} {two : Bool} {K : List Value → Xm → Bool} : ∀ (js : List Stp) (τ : Nat → Int) (at' vt : List Value) (am m : Xm), adraw P fl tbl ops ids cl dd two K js at' am = true → GF τ at' vt → GM τ am m → Inv NQ fl b0 τ m →
    Pnt NQ fl b0 K (fun K' => vdraw P (cts tbl) ops ids cl dd two K' js vt m)
 | [], τ, at', vt, am, m, h, F, M, I => ⟨vt, m, τ, at', am, h, F, M, I, fun _ hK => hK⟩
 | (j, fr, al) :: js, τ, at', vt, am, m, h, F, M, I => by
  unfold adraw at h
  split at h
  ·cases h
  ·rename_i o ho
   rw [Bool.and_eq_true] at h
   have hne : forkG ops o at' ≠ [] := fun e => by rw [e] at h; cases h.1
   obtain ⟨at1, ha1, F1, hw⟩ := forkG_ok F hne
   obtain ⟨am1, hm1, M1⟩ := forkM_ok (o := o) (ρ := VE at1) M I
   have h1 := allT_is (allT_is h.2 at1 ha1) am1 hm1
   split at h1
   ·rename_i v hv
    have hq : ∃ u, vqG P ops ids cl dd two j o vt m = some u ∧ G2 τ v u := by
     unfold vqG
     rw [hw]
     split at hv
     ·rename_i hwt
      rw [hwt]
      exact aq_ok hv F1 M1
     ·rename_i hwt
      rw [hwt]
      cases hv
      exact ⟨undef, rfl, real2_same rfl⟩
    obtain ⟨u, hu, gu⟩ := hq
    rw [Bool.and_eq_true] at h1
    obtain ⟨vt', m', τ', at2, am2, h2, F2, M2, I2, hs⟩ := adraw_ok hNQ js τ _ _ am1 m h1.2 (F1.put o.dst gu) M1 I
    refine ⟨vt', m', τ', at2, am2, h2, F2, M2, I2, fun K' hK => ?_⟩
    unfold vdraw
    rw [ho]
    dsimp only
    rw [vfork_is, hu]
    dsimp only
    rw [guardB_iff]
    exact ⟨h1.1, hs K' hK⟩
   ·rename_i hv
    split at hv
    ·rename_i hwt
     split at h1
     ·rename_i v am2 e hb ha
      rw [Bool.and_eq_true] at hb
      obtain ⟨u, m2, τ', hsp, gu, M2, I2, he⟩ := aa_ok hNQ ha F1 M1 I
      obtain ⟨vt', m', τ3, at3, am3, h3, F3, M3, I3, hs⟩ := adraw_ok hNQ js τ' _ _ am2 m2 h1 ((F1.erIf he).put o.dst gu) M2 I2
      refine ⟨vt', m', τ3, at3, am3, h3, F3, M3, I3, fun K' hK => ?_⟩
      unfold vdraw
      rw [ho]
      dsimp only
      have hq : vqG P ops ids cl dd two j o vt m = none := by
       unfold vqG
       rw [hw, hwt]
       exact vq_none (m := m) ha hv F1
      rw [vfork_is, hq]
      dsimp only
      rw [guardB_iff, guardB_iff]
      refine ⟨hb.1, ?_, hsp _ (hs K' hK)⟩
      rw [vw_nat F1 (aa_okA ha)]
      exact hb.2
     ·cases h1
    ·cases hv
theorem base_nat {at' vt : List Value} (F : GF τ at' vt) (ops : List Oper) : ∀ (n : Nat) (x : Operand), baseOf ops vt n x = baseOf ops at' n x
 | 0, _ => rfl
 | n + 1, .tmp d => by
  unfold baseOf
  split
  ·split
   ·exact base_nat F ops n _
   ·exact base_nat F ops n _
   ·exact base_nat F ops n _
   ·exact base_nat F ops n _
   ·rfl
  ·have g := F.g d
   have hp := g.isP
   cases ha : isP (at'.getD d undef) with
   | true =>
    generalize at'.getD d undef = x at *
    match x, ha, g with
    | .nilIface, _, g1 =>
     have e : vt.getD d undef = .nilIface := g1.1
     rw [e]
    | .slice (some b) n c, _, g1 =>
     have e : vt.getD d undef = .slice (some b) n c := g1.1
     rw [e]
    | .pointer (some a), _, g1 => rw [g1.ptr]
   | false =>
    rw [ha] at hp
    have e : ∀ v : Value, isP v = false → (match v with
     | .pointer (some a) => some a.block
     | _ => none) = (none : Option Nat) := fun v hv => by
     cases v with
     | pointer a =>
      cases a with
      | none => rfl
      | some a => cases hv
     | _ => rfl
    exact (e _ hp).trans (e _ ha).symm
 | _ + 1, .const _ => rfl
 | _ + 1, .global _ => rfl
 | _ + 1, .func _ => rfl
theorem dirty_nat {at' vt : List Value} (F : GF τ at' vt) (ops : List Oper) : autoDirty ops vt = autoDirty ops at' := by
 unfold autoDirty
 congr 1
 funext o
 split
 ·exact base_nat F ops 6 _
 ·rfl
def boolRow : List Value → Bool
 | [c] => boolA c
 | _ => false
def cleanA (dirty : List Nat) (base : Nat) (m0 : Xm) (k : Nat) : Bool :=
 match (m0[k]?).map boolRow with
 | some true => Nat.blt k base && dirty.contains (k + 1000)
 | _ => Nat.blt k base && !dirty.contains k
def ddA (dirty : List Nat) (base : Nat) (m0 : Xm) (k : Nat) : Bool :=
 match (m0[k]?).map boolRow with
 | some true => false
 | _ => Nat.blt k base && dirty.contains k
theorem boolRow_is {l l' : List Value} (g : All2 (G0 τ) l l') : (∃ b, l' = [.bool b]) ↔ boolRow l = true := by
 constructor
 ·rintro ⟨b, rfl⟩
  match l, g with
  | [c], g =>
   show boolA c = true
   have := g.1
   unfold G0 at this
   unfold boolA
   split at this
   ·obtain ⟨x, e⟩ := this
    cases e
   ·obtain ⟨x, e, _⟩ := this
    cases e
   ·rename_i e
    unfold tkn at e
    split at e <;> cases e
    rfl
   ·cases this
   ·rw [← this.1]
 ·intro h
  match l, l', g, h with
  | [c], [v], g, h =>
   obtain ⟨b, e⟩ := boolA_is0 h g.1
   exact ⟨b, by rw [e]⟩
theorem clean_nat {am m : Xm} (M : GM τ am m) (dirty : List Nat) (base k : Nat) : cleanB dirty base m k = cleanA dirty base am k ∧ ddB dirty base m k = ddA dirty base am k := by
 unfold cleanB cleanA ddB ddA
 cases hk : am[k]? with
 | none =>
  have : m[k]? = none := by
   rw [List.getElem?_eq_none_iff] at hk ⊢
   rw [← M.len]
   exact hk
  rw [this]
  exact ⟨rfl, rfl⟩
 | some l =>
  obtain ⟨l', hl', g⟩ := M.g k l hk
  rw [hl']
  cases hb : boolRow l with
  | true =>
   obtain ⟨b, rfl⟩ := (boolRow_is g).2 hb
   rw [Option.map_some, hb]
   exact ⟨rfl, rfl⟩
  | false =>
   rw [Option.map_some, hb]
   have hn : ∀ b, l' ≠ [.bool b] := fun b e => by
    have := (boolRow_is g).1 ⟨b, e⟩
    rw [hb] at this
    cases this
   constructor
   ·split
    ·rename_i e
     cases e
     exact absurd rfl (hn _)
    ·rfl
   ·split
    ·rename_i e
     cases e
     exact absurd rfl (hn _)
    ·rfl
def aregion (P : Program) (fl : Bool) (tbl : List (ACt P nq)) (dirty : Nat → List Nat) (id : Nat) (ops : Array Oper) (draw : Bool) (K : List Value → Xm → Bool) (at' : List Value) (m : Xm) : Bool :=
 match resOk P ops && (newCells P ops).all (List.all · real0), draw with
 | true, false => aseq P fl tbl ops (nid m.length ops) K (List.range ops.size) at' (m ++ newCells P ops)
 | true, true =>
  (match Region.noSelect ops, sch ops with
  | true, some js => Nat.beq js.length ops.size && adraw P fl tbl ops (nid m.length ops) (cleanA (dirty id ++ autoDirty ops.toList at') m.length (m ++ newCells P ops)) (ddA (dirty id ++ autoDirty ops.toList at') m.length (m ++ newCells P ops)) (twoPh ops) K js at' (m ++ newCells P ops)
  | _, _ => false)
 | false, _ => false
theorem GM.wide {am m ns : Xm} (M : GM τ am m) (h : ns.all (List.all · real0) = true) : GM τ (am ++ ns) (m ++ ns) := by
 refine ⟨by simp [M.len], fun k l hl => ?_⟩
 by_cases hk : k < am.length
 ·rw [List.getElem?_append_left hk] at hl
  obtain ⟨l', h1, g⟩ := M.g k l hl
  exact ⟨l', by rw [List.getElem?_append_left (by rw [← M.len]; exact hk)]; exact h1, g⟩
 ·rw [List.getElem?_append_right (by omega)] at hl
  refine ⟨l, by rw [List.getElem?_append_right (by rw [← M.len]; omega), ← M.len]; exact hl, All2.refl l (fun a ha => real0_same ?_)⟩
  have := List.all_eq_true.1 h l (List.mem_of_getElem? hl)
  exact List.all_eq_true.1 this a ha
theorem Inv.wide {fl b0 : Bool} {m : Xm} (I : Inv NQ fl b0 τ m) (ns : Xm) : Inv NQ fl b0 τ (m ++ ns) := fun hf => by
 obtain ⟨b, h1, h2⟩ := I hf
 exact ⟨b, by rw [List.getElem?_append_left (List.getElem?_eq_some_iff.1 h1).1]; exact h1, h2⟩
theorem aregion_ok (hNQ : ∀ τ, nq τ → NQ τ) {fl b0 : Bool} {tbl : List (ACt P nq)} {dirty : Nat → List Nat} {id : Nat} {ops : Array Oper} {draw : Bool} {K : List Value → Xm → Bool} {at' vt : List Value} {am m : Xm} (h : aregion P fl tbl dirty id ops draw K at' am = true) (F : GF τ at' vt) (M : GM τ am m) (I : Inv NQ fl b0 τ m) :
    Pnt NQ fl b0 K (fun K' => vregion P (cts tbl) dirty id ops draw K' vt m) := by
 unfold aregion at h
 split at h
 ·rename_i hr
  rw [Bool.and_eq_true] at hr
  rw [M.len] at h
  obtain ⟨vt', m', τ', at2, am2, h2, F2, M2, I2, hs⟩ := aseq_ok hNQ _ τ at' vt _ _ h F (M.wide hr.2) (I.wide _)
  refine ⟨vt', m', τ', at2, am2, h2, F2, M2, I2, fun K' hK => ?_⟩
  unfold vregion
  rw [hr.1]
  exact hs K' hK
 ·rename_i hr
  rw [Bool.and_eq_true] at hr
  split at h
  ·rename_i js hn hsch
   have Mw := M.wide hr.2
   rw [Bool.and_eq_true] at h
   obtain ⟨hl, h⟩ := h
   rw [M.len, ← dirty_nat F, show cleanA _ _ _ = _ from (funext (fun k => (clean_nat Mw (dirty id ++ autoDirty ops.toList vt) m.length k).1)).symm, show ddA _ _ _ = _ from (funext (fun k => (clean_nat Mw (dirty id ++ autoDirty ops.toList vt) m.length k).2)).symm] at h
   obtain ⟨vt', m', τ', at2, am2, h2, F2, M2, I2, hs⟩ := adraw_ok hNQ _ τ at' vt _ _ h F Mw (I.wide _)
   refine ⟨vt', m', τ', at2, am2, h2, F2, M2, I2, fun K' hK => ?_⟩
   unfold vregion
   rw [hr.1]
   dsimp only
   rw [hn, hsch]
   dsimp only
   rw [guardB_iff]
   exact ⟨hl, hs K' hK⟩
  ·cases h
 ·cases h
def nN (n : Nat) (K : Nat → Bool) : Bool := Nat.casesOn n (K 0) (fun m => K (m + 1))
def nI (x : Int) (K : Int → Bool) : Bool := Int.casesOn x (fun n => nN n (fun n => K (.ofNat n))) (fun n => nN n (fun n => K (.negSucc n)))
def nK (k : IntKind) (K : IntKind → Bool) : Bool := IntKind.casesOn k (K .i8) (K .i16) (K .i32) (K .i64) (K .u8) (K .u16) (K .u32) (K .u64)
def nB (b : Bool) (K : Bool → Bool) : Bool := Bool.casesOn b (K false) (K true)
def n0 (v : Value) (K : Value → Bool) : Bool :=
 match v with
 | .int k x => nK k fun k => nI x fun x => K (.int k x)
 | .bool b => nB b fun b => K (.bool b)
 | .tuple ⟨[.int k x]⟩ => nK k fun k => nI x fun x => K (.tuple ⟨[.int k x]⟩)
 | .tuple ⟨[.bool b]⟩ => nB b fun b => K (.tuple ⟨[.bool b]⟩)
 | .pointer (some ⟨b, o, none⟩) => nN b fun b => nN o fun o => K (.pointer (some ⟨b, o, none⟩))
 | v => K v
def nL : List Value → (List Value → Bool) → Bool
 | [], K => K []
 | x :: l, K => n0 x fun x => nL l fun l => K (x :: l)
def n1 (v : Value) (K : Value → Bool) : Bool :=
 match v with
 | .agg ⟨l⟩ => nL l fun l => K (.agg ⟨l⟩)
 | v => n0 v K
def nF : List Value → (List Value → Bool) → Bool
 | [], K => K []
 | x :: l, K => n1 x fun x => nF l fun l => K (x :: l)
theorem nN_is (n : Nat) (K : Nat → Bool) : nN n K = K n := by cases n <;> rfl
theorem nI_is (x : Int) (K : Int → Bool) : nI x K = K x := by
 cases x with
 | ofNat n => exact nN_is n (fun n => K (.ofNat n))
 | negSucc n => exact nN_is n (fun n => K (.negSucc n))
theorem nK_is (k : IntKind) (K : IntKind → Bool) : nK k K = K k := by cases k <;> rfl
theorem nB_is (b : Bool) (K : Bool → Bool) : nB b K = K b := by cases b <;> rfl
theorem n0_is (v : Value) (K : Value → Bool) : n0 v K = K v := by
 unfold n0
 split <;> simp only [nK_is, nI_is, nB_is, nN_is]
theorem nL_is : ∀ (l : List Value) (K : List Value → Bool), nL l K = K l
 | [], _ => rfl
 | x :: l, K => by
  show n0 x (fun x => nL l fun l => K (x :: l)) = _
  rw [n0_is, nL_is l]
theorem n1_is (v : Value) (K : Value → Bool) : n1 v K = K v := by
 unfold n1
 split
 ·exact nL_is _ _
 ·exact n0_is _ _
theorem nF_is : ∀ (l : List Value) (K : List Value → Bool), nF l K = K l
 | [], _ => rfl
 | x :: l, K => by
  show n1 x (fun x => nF l fun l => K (x :: l)) = _
  rw [n1_is, nF_is l]
def frc (K : List Value → Xm → Bool) (at' : List Value) (m : Xm) : Bool := nF at' fun at' => K at' m
theorem frc_is (K : List Value → Xm → Bool) (at' : List Value) (m : Xm) : frc K at' m = K at' m := by
 unfold frc
 rw [nF_is]
theorem GF.vset {at' vt : List Value} (F : GF τ at' vt) (c : Operand) (b : Bool) : GF τ (vset at' c b) (vset vt c b) := by
 cases c with
 | tmp t => exact F.set t ⟨rfl, rfl⟩
 | _ => exact F
abbrev AQ := Exit → List Value → Xm → Bool
def loopA : Nat → (AQ → List Value → Xm → Bool) → AQ → List Value → Xm → Bool
 | 0, _, _, _, _ => false
 | n + 1, G, Q, at', m => G (fun e at2 m' => match e with
  | .normal => frc (loopA n G Q) at2 m'
  | e => Q e at2 m') at' m
def asw (P : Program) (fl : Bool) (tbl : List (ACt P nq)) (dirty : Nat → List Nat) (n : Nat) : Code → AQ → List Value → Xm → Bool
 | .skip, Q, at', m => Q .normal at' m
 | .region id ops draw, Q, at', m => aregion P fl tbl dirty id ops draw (Q .normal) at' m
 | .seq x y, Q, at', m => asw P fl tbl dirty n x (fun e at2 m' => match e with
  | .normal => asw P fl tbl dirty n y Q at2 m'
  | e => Q e at2 m') at' m
 | .cond c x y, Q, at', m => (match okA c, VE at' c with
  | true, .bool true => asw P fl tbl dirty n x Q (vset at' c true) m
  | true, .bool false => asw P fl tbl dirty n y Q (vset at' c false) m
  | true, v => boolA v && asw P fl tbl dirty n x Q (vset at' c true) m && asw P fl tbl dirty n y Q (vset at' c false) m
  | false, _ => false)
 | .block id c, Q, at', m => asw P fl tbl dirty n c (fun e at2 m' => match e with
  | .exit id' => if id' = id then Q .normal at2 m' else Q (.exit id') at2 m'
  | e => Q e at2 m') at' m
 | .loop c, Q, at', m => loopA n (asw P fl tbl dirty n c) Q at' m
 | .exit id, Q, at', m => Q (.exit id) at' m
 | .label _, Q, at', m => Q .normal at' m
 | .ret, Q, at', m => Q .ret at' m
 | _, _, _, _ => false
def Pe (NQ : (Nat → Int) → Prop) (fl b0 : Bool) (Q : AQ) (S : VQ → Prop) : Prop :=
 ∃ e vt' m' τ' at' am', Q e at' am' = true ∧ GF τ' at' vt' ∧ GM τ' am' m' ∧ Inv NQ fl b0 τ' m' ∧ ∀ Q' : VQ, Q' e vt' m' → S Q'
theorem asw_ok (hNQ : ∀ τ, nq τ → NQ τ) {fl b0 : Bool} {tbl : List (ACt P nq)} {dirty : Nat → List Nat} {n : Nat} : ∀ (c : Code) (Q : AQ) (τ : Nat → Int) (at' vt : List Value) (am m : Xm), asw P fl tbl dirty n c Q at' am = true → GF τ at' vt → GM τ am m → Inv NQ fl b0 τ m →
    Pe NQ fl b0 Q (fun Q' => swp P (cts tbl) dirty n c Q' vt m) := by
 intro c
 induction c with
 | skip => intro Q τ at' vt am m h F M I; exact ⟨.normal, vt, m, τ, at', am, h, F, M, I, fun _ hQ => hQ⟩
 | region id ops draw =>
  intro Q τ at' vt am m h F M I
  obtain ⟨vt', m', τ', at2, am2, h2, F2, M2, I2, hs⟩ := aregion_ok hNQ h F M I
  exact ⟨.normal, vt', m', τ', at2, am2, h2, F2, M2, I2, fun Q' hQ => hs (Q' .normal) hQ⟩
 | seq x y ihx ihy =>
  intro Q τ at' vt am m h F M I
  obtain ⟨e, vt', m', τ', at2, am2, h2, F2, M2, I2, hs⟩ := ihx _ τ at' vt am m h F M I
  cases e with
  | normal =>
   obtain ⟨e, vt3, m3, τ3, at3, am3, h3, F3, M3, I3, hs3⟩ := ihy Q τ' at2 vt' am2 m' h2 F2 M2 I2
   exact ⟨e, vt3, m3, τ3, at3, am3, h3, F3, M3, I3, fun Q' hQ => hs _ (hs3 Q' hQ)⟩
  | exit id => exact ⟨_, vt', m', τ', at2, am2, h2, F2, M2, I2, fun Q' hQ => hs _ hQ⟩
  | goto l => exact ⟨_, vt', m', τ', at2, am2, h2, F2, M2, I2, fun Q' hQ => hs _ hQ⟩
  | ret => exact ⟨_, vt', m', τ', at2, am2, h2, F2, M2, I2, fun Q' hQ => hs _ hQ⟩
  | panic ch => exact ⟨_, vt', m', τ', at2, am2, h2, F2, M2, I2, fun Q' hQ => hs _ hQ⟩
  | outgrown => exact ⟨_, vt', m', τ', at2, am2, h2, F2, M2, I2, fun Q' hQ => hs _ hQ⟩
 | cond c x y ihx ihy =>
  intro Q τ at' vt am m h F M I
  unfold asw at h
  have go : ∀ b : Bool, okA c = true → VE vt c = .bool b → (match b with
   | true => asw P fl tbl dirty n x Q (vset at' c true) am
   | false => asw P fl tbl dirty n y Q (vset at' c false) am) = true → Pe NQ fl b0 Q (fun Q' => swp P (cts tbl) dirty n (.cond c x y) Q' vt m) := by
   intro b hok hb hh
   cases b with
   | true =>
    obtain ⟨e, vt', m', τ', at2, am2, h2, F2, M2, I2, hs⟩ := ihx Q τ _ _ am m hh (F.vset c true) M I
    refine ⟨e, vt', m', τ', at2, am2, h2, F2, M2, I2, fun Q' hQ => ?_⟩
    unfold swp
    rw [okA_okX hok, hb]
    exact hs Q' hQ
   | false =>
    obtain ⟨e, vt', m', τ', at2, am2, h2, F2, M2, I2, hs⟩ := ihy Q τ _ _ am m hh (F.vset c false) M I
    refine ⟨e, vt', m', τ', at2, am2, h2, F2, M2, I2, fun Q' hQ => ?_⟩
    unfold swp
    rw [okA_okX hok, hb]
    exact hs Q' hQ
  split at h
  ·rename_i hok hv
   have g := F.ev hok
   rw [hv] at g
   exact go true hok g.bool h
  ·rename_i hok hv
   have g := F.ev hok
   rw [hv] at g
   exact go false hok g.bool h
  ·rename_i hok _ _
   have g := F.ev hok
   simp only [Bool.and_eq_true] at h
   obtain ⟨b, hb⟩ := boolA_is h.1.1 g
   refine go b hok hb ?_
   cases b
   ·exact h.2
   ·exact h.1.2
  ·cases h
 | block id c ih =>
  intro Q τ at' vt am m h F M I
  obtain ⟨e, vt', m', τ', at2, am2, h2, F2, M2, I2, hs⟩ := ih _ τ at' vt am m h F M I
  cases e with
  | exit id' =>
   dsimp only at h2
   split at h2
   ·rename_i e
    refine ⟨.normal, vt', m', τ', at2, am2, h2, F2, M2, I2, fun Q' hQ => hs _ ?_⟩
    dsimp only
    rw [if_pos e]
    exact hQ
   ·rename_i e
    refine ⟨.exit id', vt', m', τ', at2, am2, h2, F2, M2, I2, fun Q' hQ => hs _ ?_⟩
    dsimp only
    rw [if_neg e]
    exact hQ
  | normal => exact ⟨_, vt', m', τ', at2, am2, h2, F2, M2, I2, fun Q' hQ => hs _ hQ⟩
  | goto l => exact ⟨_, vt', m', τ', at2, am2, h2, F2, M2, I2, fun Q' hQ => hs _ hQ⟩
  | ret => exact ⟨_, vt', m', τ', at2, am2, h2, F2, M2, I2, fun Q' hQ => hs _ hQ⟩
  | panic ch => exact ⟨_, vt', m', τ', at2, am2, h2, F2, M2, I2, fun Q' hQ => hs _ hQ⟩
  | outgrown => exact ⟨_, vt', m', τ', at2, am2, h2, F2, M2, I2, fun Q' hQ => hs _ hQ⟩
 | loop c ih =>
  intro Q τ at' vt am m h F M I
  have key : ∀ k τ at' vt am m, loopA k (asw P fl tbl dirty n c) Q at' am = true → GF τ at' vt → GM τ am m → Inv NQ fl b0 τ m → Pe NQ fl b0 Q (fun Q' => loopN k (swp P (cts tbl) dirty n c) Q' vt m) := by
   intro k
   induction k with
   | zero => intro τ at' vt am m h; cases h
   | succ k ihk =>
    intro τ at' vt am m h F M I
    obtain ⟨e, vt', m', τ', at2, am2, h2, F2, M2, I2, hs⟩ := ih _ τ at' vt am m h F M I
    cases e with
    | normal =>
     dsimp only at h2
     rw [frc_is] at h2
     obtain ⟨e, vt3, m3, τ3, at3, am3, h3, F3, M3, I3, hs3⟩ := ihk τ' at2 vt' am2 m' h2 F2 M2 I2
     exact ⟨e, vt3, m3, τ3, at3, am3, h3, F3, M3, I3, fun Q' hQ => hs _ (hs3 Q' hQ)⟩
    | exit id => exact ⟨_, vt', m', τ', at2, am2, h2, F2, M2, I2, fun Q' hQ => hs _ hQ⟩
    | goto l => exact ⟨_, vt', m', τ', at2, am2, h2, F2, M2, I2, fun Q' hQ => hs _ hQ⟩
    | ret => exact ⟨_, vt', m', τ', at2, am2, h2, F2, M2, I2, fun Q' hQ => hs _ hQ⟩
    | panic ch => exact ⟨_, vt', m', τ', at2, am2, h2, F2, M2, I2, fun Q' hQ => hs _ hQ⟩
    | outgrown => exact ⟨_, vt', m', τ', at2, am2, h2, F2, M2, I2, fun Q' hQ => hs _ hQ⟩
  exact key n τ at' vt am m h F M I
 | exit id => intro Q τ at' vt am m h F M I; exact ⟨.exit id, vt, m, τ, at', am, h, F, M, I, fun _ hQ => hQ⟩
 | label l => intro Q τ at' vt am m h F M I; exact ⟨.normal, vt, m, τ, at', am, h, F, M, I, fun _ hQ => hQ⟩
 | ret => intro Q τ at' vt am m h F M I; exact ⟨.ret, vt, m, τ, at', am, h, F, M, I, fun _ hQ => hQ⟩
 | goto l => intro Q τ at' vt am m h; cases h
 | scope c _ => intro Q τ at' vt am m h; cases h
 | refuse s => intro Q τ at' vt am m h; cases h
 | rangeFunc f ps x y _ _ => intro Q τ at' vt am m h; cases h
end
end Go.Proofs.YtbophanlmkbfeaaGreatDoor
