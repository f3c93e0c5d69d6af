/-
  A run over names: parts, rows, and one operation that changes nothing, for the seat YtoadcnhcfodkgaaGreatDoor. No Go text in sight.
-/
import Derived.Test.YtoadcnhcfodkgaaGreatDoorNxB
namespace Go.Proofs.YtoadcnhcfodkgaaGreatDoor.Nx
open Go.RowKit Go.Proofs.YtoadcnhcfodkgaaGreatDoor

section
variable {P : Program} {τ : List Int}
theorem one_qr {S : Sem Value} {v : Value} : qrun P (S >>= fun z => pure (Next.value z)) = some (Next.value v) ↔ qrun P S = some v := by
  rw [qrun_bind]
  cases h : qrun P S with
  | none => simp
  | some u =>
    show some (Next.value u) = some (Next.value v) ↔ some u = some v
    constructor
    · intro e
      cases e
      rfl
    · intro e
      cases e
      rfl
theorem pure_nat {o : Oper} {at' vt : List Value} {S S' : Sem Value} {r : Value} (hS : execOp (VE at') o = S >>= fun z => pure (Next.value z)) (hS' : execOp (VE vt) o = S' >>= fun z => pure (Next.value z))
    (h : pureV P o (VE at') = some r) (hg : ∀ x ∈ o.op.operands, G2 τ (VE at' x) (VE vt x)) (hn : qrun P S = some r → ∃ v, qrun P S' = some v ∧ G2 τ r v) : ∃ v, pureV P o (VE vt) = some v ∧ G2 τ r v := by
  obtain ⟨hp, hq, hr⟩ := pureV_is h
  rw [hS, one_qr] at hq
  obtain ⟨v, hv, g⟩ := hn hq
  exact ⟨v, pureV_of (fun x hx => by rw [(hg x hx).isP]; exact hp x hx) (by rw [hS', one_qr]; exact hv) (by rw [g.isP]; exact hr), g⟩
theorem asAgg_q {x : Value} {cs : Array Value} (h : qrun P (asAgg x) = some cs) : x = .agg cs := by
  unfold asAgg at h
  split at h
  · cases h; rfl
  · cases h
theorem field_nat {t : TypeId} {x v r : Value} {f : Nat} (h : qrun P (Instr.field t x f) = some r) (g : G2 τ x v) : ∃ u, qrun P (Instr.field t v f) = some u ∧ G2 τ r u := by
  unfold Instr.field at h ⊢
  rw [qrun_bind] at h ⊢
  cases hu : qrun P (underlying t) with
  | none => rw [hu] at h; cases h
  | some d =>
    rw [hu] at h
    simp only [Option.bind_some] at h ⊢
    split at h
    · split at h
      · rw [qrun_bind] at h ⊢
        cases hx : qrun P (asAgg x) with
        | none => rw [hx] at h; cases h
        | some cs =>
          rw [hx] at h
          obtain rfl := asAgg_q hx
          obtain ⟨l, rfl, gl⟩ := g.agg
          obtain ⟨u, hu, gu⟩ := part_nat h gl
          exact ⟨u, hu, gu.g2⟩
      · cases h
    · cases h
theorem bounds_q {α : Type} (k : IntKind) (i : Int) (n : Nat) (c : BoundsCode) : qrun P (boundsPanic (α := α) k i n c) = none := by
  unfold boundsPanic
  dsimp only
  split <;> rfl
theorem index_nat {t : TypeId} {x v r : Value} {k : IntKind} {i : Int} (h : qrun P (Instr.index t x (.int k i)) = some r) (hx : ∃ cs, x = .agg cs) (g : G2 τ x v) : ∃ u, qrun P (Instr.index t v (.int k i)) = some u ∧ G2 τ r u := by
  obtain ⟨cs, rfl⟩ := hx
  obtain ⟨l, rfl, gl⟩ := g.agg
  unfold Instr.index at h ⊢
  rw [qrun_bind] at h ⊢
  change (Option.bind (some (k, i)) _) = _ at h
  change ∃ u, (Option.bind (some (k, i)) _) = _ ∧ _
  simp only [Option.bind_some] at h ⊢
  rw [qrun_bind] at h ⊢
  cases hu : qrun P (underlying t) with
  | none => rw [hu] at h; cases h
  | some d =>
    rw [hu] at h
    simp only [Option.bind_some] at h ⊢
    split at h
    · rename_i vv len elem cs' e2
      cases e2
      split at h
      · rename_i hi
        rw [if_pos hi]
        rw [qrun_bind] at h ⊢
        cases hs : qrun P (sizeOf elem) with
        | none => rw [hs] at h; cases h
        | some n =>
          rw [hs] at h
          obtain ⟨u, hu, gu⟩ := part_nat h gl
          exact ⟨u, hu, gu.g2⟩
      · rw [bounds_q] at h
        cases h
    · rename_i e
      cases e
    · cases h
theorem extract_nat {a b : Value} {rs : List Value} {v r : Value} {i : Nat} (h : qrun P (Instr.extract (.tuple ⟨a :: b :: rs⟩) i) = some r) (g : G2 τ (.tuple ⟨a :: b :: rs⟩) v) : ∃ u, qrun P (Instr.extract v i) = some u ∧ G2 τ r u := by
  obtain ⟨l, rfl, gl⟩ := g
  unfold Instr.extract at h ⊢
  dsimp only at h ⊢
  split at h
  · rename_i w hw
    cases h
    obtain ⟨u, hu, gu⟩ := gl.get i r (by simpa using hw)
    refine ⟨u, ?_, gu.g2⟩
    have : (⟨l⟩ : Array Value)[i]? = some u := by simpa using hu
    rw [this]
    rfl
  · cases h
/-- A value that fills a place of a row. -/
def notMulti : Value → Bool
  | .tuple ⟨_ :: _ :: _⟩ => false
  | _ => true
theorem cells_nat {t v : Value} (g : G2 τ t v) (hm : notMulti t = true) : All2 (G0 τ) t.cells.toList v.cells.toList := by
  unfold G2 at g
  split at g
  · cases hm
  · unfold G1 at g
    split at g
    · obtain ⟨l, rfl, gl⟩ := g
      exact gl
    · rename_i hn
      have h1 : t.cells = #[t] := by
        unfold Value.cells
        split
        · exact absurd rfl (hn _)
        · rfl
      have h2 : v.cells = #[v] := by
        unfold G0 at g
        split at g
        · obtain ⟨x, rfl⟩ := g; rfl
        · obtain ⟨x, rfl⟩ := g; rfl
        · obtain ⟨x, _, rfl⟩ := g; rfl
        · obtain ⟨x, _, rfl⟩ := g; rfl
        · rw [g.1]; exact h1
      rw [h1, h2]
      exact ⟨g, trivial⟩
theorem fold_nat (off : Nat) : ∀ (l l' : List Value), All2 (G0 τ) l l' → ∀ (n : Nat) (cs cs' : Array Value), All2 (G0 τ) cs.toList cs'.toList →
    All2 (G0 τ) ((l.zipIdx n).foldl (fun cs (x : Value × Nat) => cs.setIfInBounds (off + x.2) x.1) cs).toList ((l'.zipIdx n).foldl (fun cs (x : Value × Nat) => cs.setIfInBounds (off + x.2) x.1) cs').toList
  | [], [], _, _, _, _, h => h
  | a :: l, b :: l', g, n, cs, cs', h => by
    simp only [List.zipIdx_cons, List.foldl_cons]
    exact fold_nat off l l' g.2 (n + 1) _ _ (by simpa using h.set (off + n) a b g.1)
  | [], _ :: _, g, _, _, _, _ => g.elim
  | _ :: _, [], g, _, _, _, _ => g.elim
theorem fill_nat (place : Nat → Option (Nat × Nat)) : ∀ (ps ps' : List (Nat × Value)), All2 (fun p q : Nat × Value => p.1 = q.1 ∧ All2 (G0 τ) p.2.cells.toList q.2.cells.toList) ps ps' → ∀ (cs cs' : Array Value) (r : Array Value), All2 (G0 τ) cs.toList cs'.toList →
    Instr.fill place cs ps = some r → ∃ r', Instr.fill place cs' ps' = some r' ∧ All2 (G0 τ) r.toList r'.toList
  | [], [], _, cs, cs', r, g, h => by
    simp only [Instr.fill, Option.some.injEq] at h
    subst h
    exact ⟨cs', rfl, g⟩
  | (i, v) :: ps, (j, u) :: ps', gp, cs, cs', r, g, h => by
    obtain ⟨⟨rfl, gv⟩, gp⟩ := gp
    have hl := gv.len
    have hc := g.len
    simp only [Array.length_toList] at hl hc
    unfold Instr.fill at h ⊢
    dsimp only at h ⊢
    split at h
    · cases h
    · rename_i off size hp
      split at h
      · cases h
      · rename_i hcond
        rw [← hl, ← hc, if_neg hcond]
        refine fill_nat place ps ps' gp _ _ r ?_ h
        have := fold_nat off _ _ gv 0 cs cs' g
        rw [← Array.foldl_toList, ← Array.foldl_toList, Array.toList_zipIdx, Array.toList_zipIdx]
        exact this
  | [], _ :: _, g, _, _, _, _, _ => g.elim
  | _ :: _, [], g, _, _, _, _, _ => g.elim
/-- A type whose zero value is made of plain cells. -/
def zeroOk (P : Program) (t : TypeId) : Bool :=
  match qrun P (zeroValue t) with
  | some z => z.cells.toList.all real0
  | none => false
theorem build_nat {t : TypeId} {ps ps' : Array (Nat × Value)} {r : Value} (hz : zeroOk P t = true) (h : qrun P (Instr.build t ps) = some r) (g : All2 (fun p q : Nat × Value => p.1 = q.1 ∧ All2 (G0 τ) p.2.cells.toList q.2.cells.toList) ps.toList ps'.toList) :
    ∃ u, qrun P (Instr.build t ps') = some u ∧ G2 τ r u := by
  unfold zeroOk at hz
  unfold Instr.build at h ⊢
  rw [qrun_bind] at h ⊢
  cases h0 : qrun P (zeroValue t) with
  | none => rw [h0] at h; cases h
  | some z =>
    rw [h0] at h hz
    dsimp only at hz
    have gz : All2 (G0 τ) z.cells.toList z.cells.toList := All2.refl _ (fun a ha => real0_same (List.all_eq_true.1 hz a ha))
    simp only [Option.bind_some] at h ⊢
    rw [qrun_bind] at h ⊢
    cases hu : qrun P (underlying t) with
    | none => rw [hu] at h; cases h
    | some d =>
      rw [hu] at h
      simp only [Option.bind_some] at h ⊢
      split at h
      · rw [qrun_bind] at h ⊢
        generalize qrun P _ = pl at h ⊢
        cases pl with
        | none => cases h
        | some places =>
          simp only [Option.bind_some] at h ⊢
          split at h
          · rename_i cells hf
            cases h
            obtain ⟨r', hr', gr⟩ := fill_nat (τ := τ) _ _ _ g _ _ _ gz hf
            rw [hr']
            exact ⟨.agg r', rfl, ⟨r'.toList, rfl, gr⟩⟩
          · cases h
      · rw [qrun_bind] at h ⊢
        generalize qrun P _ = pl at h ⊢
        cases pl with
        | none => cases h
        | some size =>
          simp only [Option.bind_some] at h ⊢
          split at h
          · rename_i cells hf
            cases h
            obtain ⟨r', hr', gr⟩ := fill_nat (τ := τ) _ _ _ g _ _ _ gz hf
            rw [hr']
            exact ⟨.agg r', rfl, ⟨r'.toList, rfl, gr⟩⟩
          · cases h
      · cases h
theorem loadV_nat {t : TypeId} {l l' : List Value} {off : Nat} {r : Value} (h : loadV P t l off = some r) (g : All2 (G0 τ) l l') : ∃ v, loadV P t l' off = some v ∧ G2 τ r v := by
  unfold loadV at h ⊢
  split at h
  · split at h
    · rename_i n hn
      split at h
      · rename_i hl
        cases h
        have := g.len
        rw [if_pos (by omega)]
        refine ⟨_, rfl, ⟨_, rfl, ?_⟩⟩
        have := (g.drop off).take n
        simpa using this
      · cases h
    · cases h
  · obtain ⟨v, hv, gv⟩ := g.get off r h
    exact ⟨v, hv, gv.g2⟩
  · cases h
/-- One of two. -/
def aPick (c a b : Value) : Option Value :=
  match c with
  | .bool x => (match x with
    | true => some a
    | false => some b)
  | c => if boolA c then (if boolA a && boolA b then some unkB else match kindA a, kindA b with
      | some k, some k' => if k = k' then some (unk k) else none
      | _, _ => none) else none
theorem pick_t (a b : Value) : pickV (.bool true) a b = some a := by cases a <;> cases b <;> rfl
theorem pick_f (a b : Value) : pickV (.bool false) a b = some b := by cases a <;> cases b <;> rfl
theorem aPick_ok {c a b vc va vb r : Value} (h : aPick c a b = some r) (gc : G2 τ c vc) (ga : G2 τ a va) (gb : G2 τ b vb) : ∃ v, pickV vc va vb = some v ∧ G2 τ r v := by
  unfold aPick at h
  split at h
  · rename_i x
    obtain rfl := gc.bool
    cases x with
    | true => cases h; exact ⟨va, pick_t va vb, ga⟩
    | false => cases h; exact ⟨vb, pick_f va vb, gb⟩
  · split at h
    · rename_i hb
      obtain ⟨x, rfl⟩ := boolA_is hb gc
      split at h
      · rename_i hab
        rw [Bool.and_eq_true] at hab
        obtain ⟨p, rfl⟩ := boolA_is hab.1 ga
        obtain ⟨q, rfl⟩ := boolA_is hab.2 gb
        cases h
        exact ⟨_, rfl, .unkB⟩
      · split at h
        · rename_i k k' hk hk'
          obtain ⟨p, rfl⟩ := kindA_is hk ga
          obtain ⟨q, rfl⟩ := kindA_is hk' gb
          split at h
          · rename_i e
            subst e
            cases h
            cases x
            · exact ⟨_, rfl, .unk⟩
            · exact ⟨_, rfl, .unk⟩
          · cases h
        · cases h
    · cases h
end
end Go.Proofs.YtoadcnhcfodkgaaGreatDoor.Nx
