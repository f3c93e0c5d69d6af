/-
  A symbolic run: statements (regions), in the order of their text, for the seat YtoadcnhcfodkgaaGreatDoor. No Go text in sight.
-/
import Derived.Test.YtoadcnhcfodkgaaGreatDoorSxD
namespace Go.Proofs.YtoadcnhcfodkgaaGreatDoor
open Go.RowKit

def yieldedV (ops : Array Oper) (vt : List Value) (j : Nat) : Option Bool :=
  match (ops[j]?).bind (·.dst) with
  | some d => asB (vt.getD d undef)
  | none => none
theorem RV.asB {bl : Bl} {v v' : Value} (h : RV bl v v') : asB v' = asB v := by
  cases hp : isP v
  · rw [h.plain hp]
  · match v, h, hp with
    | .pointer (some a), ⟨B, _, h2⟩, _ => rw [h2]; rfl
    | .nilIface, h, _ => exact h
    | .slice (some a) _ _, ⟨B, _, h2⟩, _ => rw [h2]; rfl
theorem yielded_eq {bl : Bl} {vt : List Value} {tm : Array Value} (F : FR bl vt tm) (ops : Array Oper) (j : Nat) : yielded ops tm j = yieldedV ops vt j := by
  unfold yielded yieldedV
  cases h : (ops[j]?).bind (·.dst) with
  | none => rfl
  | some d =>
    have hr := (F.rv d).asB
    dsimp only
    rw [← hr]
    simp only [Option.bind_some, Array.getD_eq_getD_getElem?]
    cases h2 : tm[d]? with
    | none => rfl
    | some u => cases u <;> rfl
theorem wanted_eq {bl : Bl} {vt : List Value} {tm : Array Value} (F : FR bl vt tm) (ops : Array Oper) (o : Oper) : Region.wanted o (yielded ops tm) = Region.wanted o (yieldedV ops vt) := by
  rw [funext (yielded_eq F ops)]
/-- The numbers of new blocks. -/
def nid (base : Nat) (ops : Array Oper) (i : Nat) : Nat := base + ((ops.toList.take i).filter isNew).length
theorem nid_lt {base : Nat} {ops : Array Oper} {i j : Nat} {oi : Oper} (hi : ops[i]? = some oi) (hn : isNew oi = true) (h : i < j) : nid base ops i < nid base ops j := by
  unfold nid
  have hl : ops.toList[i]? = some oi := by simpa using hi
  obtain ⟨hlt, he⟩ := List.getElem?_eq_some_iff.1 hl
  have h1 : (ops.toList.take (i + 1)).filter isNew = (ops.toList.take i).filter isNew ++ [oi] := by
    rw [List.take_succ_eq_append_getElem hlt, List.filter_append, he]
    simp [hn]
  have h2 : ((ops.toList.take (i + 1)).filter isNew).Sublist ((ops.toList.take j).filter isNew) := ((List.take_prefix_take_left (l := ops.toList) (show i + 1 ≤ j by omega)).sublist).filter _
  have := h2.length_le
  rw [h1, List.length_append] at this
  simp at this
  omega
theorem nid_inj {base : Nat} {ops : Array Oper} {i j : Nat} {oi oj : Oper} (hi : ops[i]? = some oi) (hj : ops[j]? = some oj) (ni : isNew oi = true) (nj : isNew oj = true) (h : nid base ops i = nid base ops j) : i = j := by
  rcases Nat.lt_trichotomy i j with h1 | h1 | h1
  · have := nid_lt (base := base) hi ni h1; omega
  · exact h1
  · have := nid_lt (base := base) hj nj h1; omega
/-- What is known ahead of the operations that are still to come. -/
def Fresh (P : Program) (rs : Xm) (ops : Array Oper) (ids : Nat → Nat) (bl : Bl) (i : Nat) : Prop := ∀ o, ops[i]? = some o → NewOk P rs (ids i) o bl
theorem Fresh.next {P : Program} {rs : Xm} {ops : Array Oper} {base : Nat} {bl bl' : Bl} {i j : Nat} {o : Oper} (h : Fresh P rs ops (nid base ops) bl j) (hi : ops[i]? = some o) (hij : i ≠ j)
    (h1 : ∀ k : Nat, k ≠ nid base ops i → bl'[k]? = bl[k]?) (h2 : isNew o = false → bl' = bl) : Fresh P rs ops (nid base ops) bl' j := by
  intro oj hj hn
  have := h oj hj hn
  refine ⟨?_, this.2⟩
  cases ho : isNew o with
  | false => rw [h2 ho]; exact this.1
  | true =>
    rw [h1 _ (fun e => hij (nid_inj (base := base) hi hj ho hn e.symm))]
    exact this.1
def vif (x : Bool) (A B : Prop) : Prop :=
  match x with
  | true => A
  | false => B
theorem vif_if {c : Prop} [Decidable c] {α : Type} {K : α → Prop} {A B : α} : vif (decide c) (K A) (K B) = K (if c then A else B) := by
  by_cases h : c
  · rw [decide_eq_true h, if_pos h]; rfl
  · rw [decide_eq_false h, if_neg h]; rfl
theorem vif_b {b : Bool} {α : Type} {K : α → Prop} {A B : α} : vif b (K A) (K B) = K (if b then A else B) := by cases b <;> rfl
theorem vif_lt {a b : Int} {α : Type} {K : α → Prop} {A B : α} : vif (decide (a < b)) (K A) (K B) = K (if a < b then A else B) := vif_if
theorem vif_le {a b : Int} {α : Type} {K : α → Prop} {A B : α} : vif (decide (a ≤ b)) (K A) (K B) = K (if a ≤ b then A else B) := vif_if
theorem vif_gt {a b : Int} {α : Type} {K : α → Prop} {A B : α} : vif (decide (a > b)) (K A) (K B) = K (if a > b then A else B) := vif_if
theorem vif_ge {a b : Int} {α : Type} {K : α → Prop} {A B : α} : vif (decide (a ≥ b)) (K A) (K B) = K (if a ≥ b then A else B) := vif_if
theorem vif_eq {a b : Int} {α : Type} {K : α → Prop} {A B : α} : vif (decide (a = b)) (K A) (K B) = K (if a = b then A else B) := vif_if
theorem vif_ne {a b : Int} {α : Type} {K : α → Prop} {A B : α} : vif (!decide (a = b)) (K B) (K A) = K (if a = b then A else B) := by
  by_cases h : a = b
  · rw [decide_eq_true h, if_pos h]; rfl
  · rw [decide_eq_false h, if_neg h]; rfl
theorem vif_bn {b : Bool} {α : Type} {K : α → Prop} {A B : α} : vif (!b) (K B) (K A) = K (if b then A else B) := by cases b <;> rfl
/-- One operation. -/
def vop (P : Program) (tbl : List (Ct P)) (id : Nat) (o : Oper) (vt : List Value) (m : Xm) (K : List Value → Xm → Prop) : Prop :=
  match vq P (fun _ => true) id o (VE vt) m with
  | some v => K (vput vt o.dst v) m
  | none => va P tbl id o (VE vt) m (fun v m' => K (vput vt o.dst v) m')
def vseq (P : Program) (tbl : List (Ct P)) (ops : Array Oper) (ids : Nat → Nat) (K : List Value → Xm → Prop) : List Nat → List Value → Xm → Prop
  | [], vt, m => K vt m
  | i :: rest, vt, m =>
    match ops[i]? with
    | none => vseq P tbl ops ids K rest vt m
    | some o =>
      match o.guard with
      | none => vop P tbl (ids i) o vt m (vseq P tbl ops ids K rest)
      | some (g, want) =>
        match (ops[g]?).bind (·.dst) with
        | none => False
        | some d =>
          match vt.getD d undef with
          | .bool x => vif x
              (match want with
                | true => vop P tbl (ids i) o (vt.set d (.bool true)) m (vseq P tbl ops ids K rest)
                | false => vseq P tbl ops ids K rest (vput (vt.set d (.bool true)) o.dst undef) m)
              (match want with
                | true => vseq P tbl ops ids K rest (vput (vt.set d (.bool false)) o.dst undef) m
                | false => vop P tbl (ids i) o (vt.set d (.bool false)) m (vseq P tbl ops ids K rest))
          | .tuple _ => vseq P tbl ops ids K rest (vput vt o.dst undef) m
          | _ => False
section
variable {P : Program} {tbl : List (Ct P)} {bs : List Nat} {w0 : World} {rs : Xm} {Q : Exit → Act → World → Prop} {ops : Array Oper} {base : Nat} {K : List Value → Xm → Prop} {ds : List Deferred} {ln : Nat} {bl0 : Bl}
theorem vop_wp {bl : Bl} {vt : List Value} {m : Xm} {a : Act} {w : World} {id : Nat} {o : Oper} {K : List Value → Xm → Prop} (h : vop P tbl id o vt m K) (F : FR bl vt a.tmps) (R : RW bs w0 bl m w) (N : Nw rs bl m) (hnew : NewOk P rs id o bl) :
    o.wp P a w (Behind bs w0 rs bl m vt a id o (fun v m' => K (vput vt o.dst v) m')) Q := by
  unfold vop at h
  split at h
  · rename_i v hv
    exact vq_wp hv F R N hnew h
  · exact va_wp h F R N hnew
theorem FR.setSame {bl : Bl} {vt : List Value} {tm : Array Value} (h : FR bl vt tm) {d : Nat} {v : Value} (hd : vt.getD d undef = v) : FR bl (vt.set d v) tm := by
  refine ⟨by rw [List.length_set]; exact h.len, fun t => ?_⟩
  by_cases e : d = t
  · subst e
    have h1 := h.rv d
    by_cases hl : d < vt.length
    · rw [hd] at h1
      rw [List.getD_eq_getElem?_getD, List.getElem?_set_self hl]
      exact h1
    · rw [List.getD_eq_getElem?_getD, List.getElem?_eq_none (by omega)] at h1
      rw [List.getD_eq_getElem?_getD, List.getElem?_eq_none (by rw [List.length_set]; omega)]
      exact h1
  · have h1 := h.rv t
    rw [List.getD_eq_getElem?_getD] at h1 ⊢
    rw [List.getElem?_set_ne e]
    exact h1
theorem vseq_sound (hK : ∀ bl vt m a w, K vt m → FR bl vt a.tmps → RW bs w0 bl m w → Le bl0 bl → bl.length = ln → m.length = ln → a.defers = ds → Q .normal a w) :
    ∀ (is : List Nat) (bl : Bl) (vt : List Value) (m : Xm) (a : Act) (w : World), is.Nodup → vseq P tbl ops (nid base ops) K is vt m → FR bl vt a.tmps → RW bs w0 bl m w → Nw rs bl m →
      (∀ i ∈ is, Fresh P rs ops (nid base ops) bl i) → Le bl0 bl → bl.length = ln → m.length = ln → a.defers = ds → wpOps P ops Q is a w
  | [], bl, vt, m, a, w, _, h, F, R, _, _, hle, hl, hml, hd => hK bl vt m a w h F R hle hl hml hd
  | i :: rest, bl, vt, m, a, w, hnd, h, F, R, N, hf, hle, hl, hml, hd => by
    rw [List.nodup_cons] at hnd
    rw [wpOps_cons]
    unfold vseq at h
    unfold wpOp
    cases ho : ops[i]? with
    | none =>
      rw [ho] at h
      exact vseq_sound hK rest bl vt m a w hnd.2 h F R N (fun j hj => hf j (List.mem_cons_of_mem _ hj)) hle hl hml hd
    | some o =>
      rw [ho] at h
      dsimp only at h ⊢
      have hfi := hf i List.mem_cons_self o ho
      have step : ∀ vt2 : List Value, FR bl vt2 a.tmps → vop P tbl (nid base ops i) o vt2 m (vseq P tbl ops (nid base ops) K rest) → o.wp P a w (wpOps P ops Q rest) Q := by
        intro vt2 F2 h2
        refine Oper.wp_mono ?_ (vop_wp (Q := Q) h2 F2 R N hfi)
        rintro a' w' ⟨bl', v, m', hbl, hmm, hle', h1, h3, hdef, F', R', N', hK'⟩
        exact vseq_sound hK rest bl' _ m' a' w' hnd.2 hK' F' R' N' (fun j hj => (hf j (List.mem_cons_of_mem _ hj)).next ho (by rintro rfl; exact hnd.1 hj) h1 h3) (hle.trans hle') (hbl.trans hl) (hmm.trans hml) (hdef.trans hd)
      have skip : ∀ vt2 : List Value, FR bl vt2 a.tmps → vseq P tbl ops (nid base ops) K rest (vput vt2 o.dst undef) m → wpOps P ops Q rest (a.put o.dst undef) w := by
        intro vt2 F2 h2
        exact vseq_sound hK rest bl _ m _ w hnd.2 h2 (F2.put (.same rfl) _) R N (fun j hj => hf j (List.mem_cons_of_mem _ hj)) hle hl hml ((put_defers _ _ _).trans hd)
      rw [wanted_eq F]
      cases hg : o.guard with
      | none =>
        rw [hg] at h
        rw [show Region.wanted o (yieldedV ops vt) = true by unfold Region.wanted; rw [hg], if_pos rfl]
        exact .inl (step vt F h)
      | some gw =>
        obtain ⟨g, want⟩ := gw
        rw [hg] at h
        dsimp only at h
        split at h
        · exact h.elim
        · rename_i d hdst
          split at h
          · rename_i x hx
            have hw : Region.wanted o (yieldedV ops vt) = (x == want) := by
              unfold Region.wanted
              rw [hg]
              dsimp only
              unfold yieldedV
              rw [hdst]
              dsimp only
              rw [hx]
              simp [asB]
            rw [hw]
            cases x <;> cases want <;> simp only [vif] at h
            · rw [if_pos (by decide)]
              exact .inl (step _ (F.setSame hx) h)
            · rw [if_neg (by decide)]
              exact skip _ (F.setSame hx) h
            · rw [if_neg (by decide)]
              exact skip _ (F.setSame hx) h
            · rw [if_pos (by decide)]
              exact .inl (step _ (F.setSame hx) h)
          · rename_i ts hx
            have hw : Region.wanted o (yieldedV ops vt) = false := by
              unfold Region.wanted
              rw [hg]
              dsimp only
              unfold yieldedV
              rw [hdst]
              dsimp only
              rw [hx]
              rfl
            rw [hw, if_neg (by decide)]
            exact skip _ F h
          · exact h.elim
end
end Go.Proofs.YtoadcnhcfodkgaaGreatDoor
