/-
  A run over names: a function whose answer is a row, cell by cell what another one answers, for the seat YtoadcnhcfodkgaaGreatDoor. No Go text in sight.
-/
import Derived.Test.YtoadcnhcfodkgaaGreatDoorNxL
namespace Go.Proofs.YtoadcnhcfodkgaaGreatDoor.Nx
open Go.RowKit Go.Proofs.YtoadcnhcfodkgaaGreatDoor

structure Fam where
  base : Nat
  N : Nat
  cfn : Nat
  dfn : Nat
  csa : List Value
  darr : Nat → List Value → List Value
  dinv : List Value → Option (Nat × List Value)
structure FamOk (P : Program) (prs : List (Pr P)) (f : Fam) (cell : Nat → Bool → List Value → Int × Bool) : Prop where
  cgo : ∀ (args : Array Value) (w : World), (callFunc f.cfn args).run P w = .ok (.enter f.cfn args) w
  dgo : ∀ (args : Array Value) (w : World), (callFunc f.dfn args).run P w = .ok (.enter f.dfn args) w
  hi : P.inits.idxOf? f.dfn = none
  nn : f.csa.all nn2 = true
  pr : ∀ t, t < f.N → ∃ pr : Pr P, prs[f.base + t]? = some pr ∧ (∀ d, pr.fn d = f.dfn) ∧ pr.arr = f.darr t ∧ pr.sa = f.csa ∧ pr.kind = 9
  inv : ∀ {targs : List Value} {t : Nat} {cargs : List Value}, f.dinv targs = some (t, cargs) → t < f.N ∧ ∀ {τ : List Int} {vargs : List Value}, All2 (G2 τ) targs vargs → ∃ rest, vargs = f.darr t rest ∧ All2 (G2 τ) cargs rest
  st : ∀ t rest, (cell t true rest).2 = true
  doc : ∀ t, t < f.N → ∀ b rest, All2 (G2 []) f.csa rest → CallsOk P f.dfn b (f.darr t rest) (.int .i64 (cell t b rest).1) (cell t b rest).2
  code : ∀ b rest, All2 (G2 []) f.csa rest → ∃ (vs : List Int) (b' : Bool), CallsOk P f.cfn b rest (.agg ⟨vs.map (Value.int .i64)⟩) b' ∧ vs.length = f.N ∧ (b' = false ↔ b = false ∧ ∀ t, t < f.N → (cell t false rest).2 = false) ∧ (b' = false → ∀ t, t < f.N → vs[t]? = some (cell t false rest).1)
section
variable {P : Program} {prs : List (Pr P)} {f : Fam} {cell : Nat → Bool → List Value → Int × Bool} {τ : List Int}
theorem FamOk.at (h : FamOk P prs f cell) {t : Nat} (ht : t < f.N) {pr : Pr P} (hp : prs[f.base + t]? = some pr) {rest : List Value} (hc : All2 (G2 []) f.csa rest) (d b : Bool) :
    All2 (G2 []) pr.sa rest ∧ (Classical.choose pr.h d b rest).1 = .int .i64 (cell t b rest).1 ∧ (Classical.choose pr.h d b rest).2 = (cell t b rest).2 := by
  obtain ⟨pr', h1, h2, h3, h4, h5⟩ := h.pr t ht
  rw [hp] at h1
  cases h1
  have hc' : All2 (G2 []) pr.sa rest := by rw [h4]; exact hc
  have := ((Classical.choose_spec pr.h).1 d b rest hc').1.1 (by omega)
  generalize Classical.choose pr.h d b rest = y at this ⊢
  rw [h2, h3] at this
  obtain ⟨e1, e2⟩ := this.det h.hi (h.doc t ht b rest hc)
  exact ⟨hc', e1, e2⟩
theorem FamOk.conf (h : FamOk P prs f cell) {τ' : List Int} {rest : List Value} (g : All2 (G2 τ) f.csa rest) : All2 (G2 τ') f.csa rest := nnL (R := G2 τ) (S := G2 τ') nn2_g h.nn g
theorem FamOk.num (h : FamOk P prs f cell) {t : Nat} (ht : t < f.N) {args : List Value} {r : Value} : NumR prs τ (f.base + t, args, r) := fun pr h1 h2 => by
  obtain ⟨pr', k1, _, _, _, k5⟩ := h.pr t ht
  have h1 : prs[f.base + t]? = some pr := h1
  rw [k1] at h1
  cases h1
  omega
def notesF (base : Nat) (args : List Value) (n0 : Nat) : Nat → List Nd → List Nd
  | 0, D => D
  | t + 1, D => (base + t, args, sym (n0 + t)) :: notesF base args n0 t D
theorem notesF_mem {base : Nat} {args : List Value} {n0 : Nat} : ∀ {n : Nat} {D : List Nd} {nd : Nd}, nd ∈ notesF base args n0 n D → (∃ t, t < n ∧ nd = (base + t, args, sym (n0 + t))) ∨ nd ∈ D
  | 0, _, _, h => .inr h
  | n + 1, D, nd, h => by
    rcases List.mem_cons.1 h with rfl | h
    · exact .inl ⟨n, Nat.lt_succ_self n, rfl⟩
    · rcases notesF_mem h with ⟨t, ht, e⟩ | h
      · exact .inl ⟨t, Nat.lt_succ_of_lt ht, e⟩
      · exact .inr h
/-- The row by itself, of a run that notes. -/
def famA (f : Fam) : Rw (Nat × List Nd) where
  fn := f.cfn
  flow := true
  run := fun _ args c F s K => allB le2 args f.csa && (match c with
    | .bool true => K (rI f.N) (.bool true) F s
    | c => boolA c && (match s with
      | (n0, D) => nN n0 fun n0 => (match fresh (rI f.N) n0 with
        | some (r, n) => nN n fun n => n2 r fun r => K r unkB F (n, notesF f.base args n0 f.N D)
        | none => false)))
theorem ints_row (vs : List Int) : G2 [] (rI vs.length) (.agg ⟨vs.map (Value.int .i64)⟩) := by
  refine ⟨_, rfl, ?_⟩
  show All2 (G0 []) (List.replicate vs.length uI) _
  induction vs with
  | nil => trivial
  | cons v vs ih => exact ⟨⟨v, rfl⟩, ih⟩
theorem symL_at : ∀ {n b t : Nat}, t < n → (symL b n)[t]? = some (sym (b + t))
  | n + 1, b, 0, _ => rfl
  | n + 1, b, t + 1, h => by
    show (symL (b + 1) n)[t]? = _
    rw [symL_at (by omega), Nat.add_assoc, Nat.add_comm 1 t]
theorem rep_isU : ∀ n : Nat, (List.replicate n uI).all isU = true
  | 0 => rfl
  | n + 1 => by
    rw [List.replicate_succ, List.all_cons, rep_isU n]
    rfl
theorem fresh_rI {n b n' : Nat} {r : Value} (h : fresh (rI n) b = some (r, n')) : r = .agg ⟨symL b n⟩ := by
  have h : (match (List.replicate n uI).all isU with
    | true => some (Value.agg ⟨symL b (List.replicate n uI).length⟩, b + (List.replicate n uI).length)
    | false => none) = some (r, n') := h
  rw [rep_isU] at h
  cases h
  rw [List.length_replicate]
theorem famA_ok (d : Bool) (h : FamOk P prs f cell) : RwOk P (IO prs d) (famA f) where
  go := h.cgo
  okF := fun _ {args rest c F s K τ bad} hr ga gc hF hI => by
    dsimp only [famA] at hr
    obtain ⟨s1, s2⟩ := s
    simp only [nN_is, n2_is] at hr
    rw [Bool.and_eq_true] at hr
    have hc : All2 (G2 []) f.csa rest := h.conf (leL_ok hr.1 ga)
    obtain ⟨vs, b', ⟨q1, q2, q3⟩, hl, hgood, hval⟩ := h.code bad rest hc
    have gr := ints_row vs
    rw [hl] at gr
    have h2 := hr.2
    split at h2
    · have e := gc.1
      cases e
      have hb : b' = true := by
        cases b' with
        | true => rfl
        | false => have := (hgood.1 rfl).1; cases this
      subst hb
      exact ⟨_, _, τ, _, _, F, (s1, s2), h2, q1, q2, q3, Ext.refl _, nn2_g _ _ (show nn2 (rI f.N) = true from List.all_eq_true.2 fun x hx => by rw [List.eq_of_mem_replicate hx]; rfl) gr, ⟨rfl, rfl⟩, hF, hI.1, fun e => (by cases e), hI.2.2⟩
    · rw [Bool.and_eq_true] at h2
      obtain ⟨_, h2⟩ := h2
      split at h2
      · rename_i r n hf
        have hl2 : τ.length = s1 := hI.1
        rw [← hl2] at hf h2
        obtain ⟨xs, e1, g⟩ := fresh_ok hf gr
        have hx : Ext τ (τ ++ xs) := ⟨xs, rfl⟩
        refine ⟨_, _, τ ++ xs, _, _, F, _, h2, q1, q2, q3, hx, g, ⟨_, rfl⟩, hF.ext hx, e1.symm, fun e nd hnd => ?_, fun nd hnd => ?_⟩
        rotate_left
        · rcases notesF_mem hnd with ⟨t, ht, rfl⟩ | hnd
          · exact h.num ht
          · exact (hI.2.2 nd hnd).ext hx
        subst e
        obtain ⟨e0, hcell⟩ := hgood.1 rfl
        subst e0
        rcases notesF_mem hnd with ⟨t, ht, rfl⟩ | hnd
        · obtain ⟨pr, p1, _⟩ := h.pr t ht
          obtain ⟨c1, c2, c3⟩ := h.at ht p1 hc d false
          refine ⟨pr, rest, p1, ga.imp fun _ _ k => k.ext hx, c1, by rw [c3]; exact hcell t ht, ?_⟩
          show G2 (τ ++ xs) (sym (τ.length + t)) _
          rw [c2]
          have er := fresh_rI hf
          subst er
          obtain ⟨l, e2, gl⟩ := g
          cases e2
          obtain ⟨v, hv, gv⟩ := gl.get t _ (symL_at ht)
          rw [List.getElem?_map, hval rfl t ht] at hv
          cases hv
          exact gv.g2
        · exact (hI.2.1 rfl nd hnd).ext hx
      · cases h2
  okP := fun e => by cases e
/-- A cell by itself, of a run that notes. -/
def famB (f : Fam) : Rw (Nat × List Nd) where
  fn := f.dfn
  flow := true
  run := fun _ args c F s K => (match f.dinv args with
    | some (t, cargs) => allB le2 cargs f.csa && (match c with
      | .bool true => K uI (.bool true) F s
      | c => boolA c && (match s with
        | (n0, D) => nN n0 fun n0 => nN (f.base + t) fun p => K (sym n0) unkB F (Nat.succ n0, (p, cargs, sym n0) :: D)))
    | none => false)
theorem famB_ok (d : Bool) (h : FamOk P prs f cell) : RwOk P (IO prs d) (famB f) where
  go := h.dgo
  okF := fun _ {args rest c F s K τ bad} hr ga gc hF hI => by
    dsimp only [famB] at hr
    split at hr
    · rename_i t cargs hinv
      obtain ⟨ht, hv⟩ := h.inv hinv
      obtain ⟨crest, rfl, gca⟩ := hv ga
      obtain ⟨s1, s2⟩ := s
      simp only [nN_is] at hr
      rw [Bool.and_eq_true] at hr
      have hc : All2 (G2 []) f.csa crest := h.conf (leL_ok hr.1 gca)
      obtain ⟨q1, q2, q3⟩ := h.doc t ht bad crest hc
      have h2 := hr.2
      split at h2
      · have e := gc.1
        cases e
        have hst := h.st t crest
        exact ⟨_, _, τ, _, _, F, (s1, s2), h2, q1, q2, q3, Ext.refl _, ⟨_, rfl⟩, by rw [hst]; exact ⟨rfl, rfl⟩, hF, hI.1, fun e => (by rw [hst] at e; cases e), hI.2.2⟩
      · rw [Bool.and_eq_true] at h2
        obtain ⟨_, h2⟩ := h2
        have hl2 : τ.length = s1 := hI.1
        have hx : Ext τ (τ ++ [(cell t bad crest).1]) := ⟨_, rfl⟩
        have gs : G0 (τ ++ [(cell t bad crest).1]) (sym s1) (.int .i64 (cell t bad crest).1) := ⟨_, by rw [← hl2, List.getElem?_append_right (Nat.le_refl _), Nat.sub_self]; rfl, rfl⟩
        refine ⟨_, _, τ ++ [(cell t bad crest).1], _, _, F, _, h2, q1, q2, q3, hx, gs.g2, ⟨_, rfl⟩, hF.ext hx, by rw [List.length_append, hl2]; rfl, fun e nd hnd => ?_, fun nd hnd => ?_⟩
        rotate_left
        · rcases List.mem_cons.1 hnd with rfl | hnd
          · exact h.num ht
          · exact (hI.2.2 nd hnd).ext hx
        have hb : bad = false := by
          cases bad with
          | false => rfl
          | true => rw [h.st] at e; cases e
        subst hb
        rcases List.mem_cons.1 hnd with rfl | hnd
        · obtain ⟨pr, p1, _⟩ := h.pr t ht
          obtain ⟨c1, c2, c3⟩ := h.at ht p1 hc d false
          exact ⟨pr, crest, p1, gca.imp fun _ _ k => k.ext hx, c1, by rw [c3]; exact e, by rw [c2]; exact gs.g2⟩
        · exact (hI.2.1 rfl nd hnd).ext hx
    · cases hr
  okP := fun e => by cases e
/-- A cell, of calls that were noted. -/
def famC (f : Fam) : Rw Tb where
  fn := f.dfn
  flow := true
  run := fun _ args c F s K => (match c, f.dinv args with
    | .bool false, some (t, cargs) => cargs.all det2 && allB le2 cargs f.csa && (nN (f.base + t) fun p => match findT s p cargs with
      | some r => n2 r fun r => K r (.bool false) F s
      | none => false)
    | _, _ => false)
theorem famC_ok (d : Bool) (h : FamOk P prs f cell) : RwOk P (IC prs d) (famC f) where
  go := h.dgo
  okF := fun _ {args rest c F s K τ bad} hr ga gc hF hI => by
    dsimp only [famC] at hr
    split at hr
    · rename_i t cargs hinv
      have e := gc.1
      cases e
      obtain ⟨ht, hv⟩ := h.inv hinv
      obtain ⟨crest, rfl, gca⟩ := hv ga
      rw [nN_is, Bool.and_eq_true, Bool.and_eq_true] at hr
      have hc : All2 (G2 []) f.csa crest := h.conf (leL_ok hr.1.2 gca)
      obtain ⟨q1, q2, q3⟩ := h.doc t ht false crest hc
      have h2 := hr.2
      split at h2
      · rename_i r hf
        rw [n2_is] at h2
        obtain ⟨pr, p1, _⟩ := h.pr t ht
        obtain ⟨g1, g2⟩ := (findT_ok hI hf).use p1 hr.1.1 gca
        obtain ⟨c1, c2, c3⟩ := h.at ht p1 hc d false
        rw [c3] at g1
        rw [c2] at g2
        exact ⟨_, _, τ, _, _, F, s, h2, q1, q2, q3, Ext.refl _, g2, by rw [g1]; exact ⟨rfl, rfl⟩, hF, hI⟩
      · cases h2
    · cases hr
  okP := fun e => by cases e
def lookAll (s : Tb) (base : Nat) (args : List Value) : Nat → List Value → Option (List Value)
  | 0, acc => some acc
  | t + 1, acc => (match findT s (base + t) args with
    | some r => lookAll s base args t (r :: acc)
    | none => none)
theorem lookAll_is {s : Tb} {base : Nat} {args : List Value} : ∀ {n : Nat} {acc l : List Value}, lookAll s base args n acc = some l → ∃ rs, l = rs ++ acc ∧ rs.length = n ∧ ∀ t, t < n → ∃ r, rs[t]? = some r ∧ findT s (base + t) args = some r
  | 0, acc, l, h => by
    cases h
    exact ⟨[], rfl, rfl, fun t ht => by omega⟩
  | n + 1, acc, l, h => by
    unfold lookAll at h
    split at h
    · rename_i r hr
      obtain ⟨rs, e1, e2, e3⟩ := lookAll_is h
      refine ⟨rs ++ [r], by rw [e1]; simp, by simp [e2], fun t ht => ?_⟩
      by_cases e : t = n
      · subst e
        exact ⟨r, by rw [List.getElem?_append_right (by omega), e2, Nat.sub_self]; rfl, hr⟩
      · obtain ⟨u, k1, k2⟩ := e3 t (by omega)
        exact ⟨u, by rw [List.getElem?_append_left (by omega)]; exact k1, k2⟩
    · cases h
theorem g0_int {r : Value} {k : IntKind} {x : Int} (h : G2 τ r (.int k x)) : G0 τ r (.int k x) := by
  have h1 : G1 τ r (.int k x) := h.g1of fun a b l e => by
    subst e
    obtain ⟨l, e, _⟩ := h
    cases e
  exact h1.g0of fun cs e => by
    subst e
    obtain ⟨l, e, _⟩ := h1
    cases e
theorem All2.of_get {α β : Type} {R : α → β → Prop} : ∀ {l : List α} {m : List β}, l.length = m.length → (∀ (t : Nat) (a : α) (b : β), l[t]? = some a → m[t]? = some b → R a b) → All2 R l m
  | [], [], _, _ => trivial
  | a :: l, b :: m, hl, h => ⟨h 0 a b rfl rfl, All2.of_get (by simpa using hl) fun t a b h1 h2 => h (t + 1) a b (by simpa using h1) (by simpa using h2)⟩
  | [], _ :: _, hl, _ => by simp at hl
  | _ :: _, [], hl, _ => by simp at hl
/-- The row, of calls that were noted. -/
def famD (f : Fam) : Rw Tb where
  fn := f.cfn
  flow := true
  run := fun _ args c F s K => (match c with
    | .bool false => args.all det2 && allB le2 args f.csa && (match lookAll s f.base args f.N [] with
      | some l => n2 (.agg ⟨l⟩) fun r => K r (.bool false) F s
      | none => false)
    | _ => false)
theorem famD_ok (d : Bool) (h : FamOk P prs f cell) : RwOk P (IC prs d) (famD f) where
  go := h.cgo
  okF := fun _ {args rest c F s K τ bad} hr ga gc hF hI => by
    dsimp only [famD] at hr
    split at hr
    · have e := gc.1
      cases e
      rw [Bool.and_eq_true, Bool.and_eq_true] at hr
      have hc : All2 (G2 []) f.csa rest := h.conf (leL_ok hr.1.2 ga)
      obtain ⟨vs, b', ⟨q1, q2, q3⟩, hl, hgood, hval⟩ := h.code false rest hc
      have h2 := hr.2
      split at h2
      · rename_i l hla
        rw [n2_is] at h2
        obtain ⟨rs, e1, e2, e3⟩ := lookAll_is hla
        rw [List.append_nil] at e1
        subst e1
        have each : ∀ t, t < f.N → ∃ r, l[t]? = some r ∧ (cell t false rest).2 = false ∧ G2 τ r (.int .i64 (cell t false rest).1) := fun t ht => by
          obtain ⟨r, k1, k2⟩ := e3 t ht
          obtain ⟨pr, p1, _⟩ := h.pr t ht
          obtain ⟨g1, g2⟩ := (findT_ok hI k2).use p1 hr.1.1 ga
          obtain ⟨c1, c2, c3⟩ := h.at ht p1 hc d false
          rw [c3] at g1
          rw [c2] at g2
          exact ⟨r, k1, g1, g2⟩
        have hb : b' = false := hgood.2 ⟨rfl, fun t ht => (each t ht).choose_spec.2.1⟩
        subst hb
        refine ⟨_, _, τ, _, _, F, s, h2, q1, q2, q3, Ext.refl _, ⟨_, rfl, All2.of_get (by rw [List.length_map, hl]; exact e2) fun t a b h1 h2 => ?_⟩, ⟨rfl, rfl⟩, hF, hI⟩
        have h1 : l[t]? = some a := h1
        have ht : t < f.N := by
          have := (List.getElem?_eq_some_iff.1 h1).1
          omega
        obtain ⟨r, k1, _, k3⟩ := each t ht
        rw [k1] at h1
        cases h1
        rw [List.getElem?_map, hval rfl t ht] at h2
        cases h2
        exact g0_int k3
      · cases h2
    · cases hr
  okP := fun e => by cases e
end
end Go.Proofs.YtoadcnhcfodkgaaGreatDoor.Nx
