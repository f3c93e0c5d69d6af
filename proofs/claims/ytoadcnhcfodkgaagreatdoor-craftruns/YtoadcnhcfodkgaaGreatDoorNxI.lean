/-
  A run over names: pairs of functions, what is noted of their calls, and one function held against another, for the seat YtoadcnhcfodkgaaGreatDoor. No Go text in sight.
-/
import Derived.Test.YtoadcnhcfodkgaaGreatDoorNxH
namespace Go.Proofs.YtoadcnhcfodkgaaGreatDoor.Nx
open Go.RowKit Go.Proofs.YtoadcnhcfodkgaaGreatDoor

/-- What a function of a flow answers. -/
def CallsOk (P : Program) (f : Nat) (b : Bool) (rest : List Value) (v : Value) (b' : Bool) : Prop :=
  (∀ u ∈ rest, isP u = false) ∧ isP v = false ∧ ∀ k w, GW w → 1 < k → Fl k b w → Calls P f (ptr k :: rest).toArray w fun e w' => e = .returned v ∧ Fl k b' w' ∧ Kept k w w'
theorem world_ex (P : Program) (bad : Bool) : ∃ k w, GW w ∧ 1 < k ∧ Fl k bad w := by
  have key : ∀ w0 : World, w0.heap.size = 0 → ∃ k w, GW w ∧ 1 < k ∧ Fl k bad w := fun w0 h0 => by
    have A0 := Arr_at w0 0 (row 54 at0) 0 h0.symm
    have z1 : (w0.alloc (.cells (row 54 at0).toArray 0)).heap.size = 1 := by simp [h0]
    have A1 := Arr_at (w0.alloc (.cells (row 54 at0).toArray 0)) 1 (row 10 yr0) 0 z1.symm
    have z2 : ((w0.alloc (.cells (row 54 at0).toArray 0)).alloc (.cells (row 10 yr0).toArray 0)).heap.size = 2 := by simp [h0]
    have A2 := Arr_at ((w0.alloc (.cells (row 54 at0).toArray 0)).alloc (.cells (row 10 yr0).toArray 0)) 2 [.bool bad] 0 z2.symm
    have b1 : Below 1 (w0.alloc (.cells (row 54 at0).toArray 0)) ((w0.alloc (.cells (row 54 at0).toArray 0)).alloc (.cells (row 10 yr0).toArray 0)) := (Below.refl _ _).alloc (by omega) _
    have b2 : Below 2 ((w0.alloc (.cells (row 54 at0).toArray 0)).alloc (.cells (row 10 yr0).toArray 0)) (((w0.alloc (.cells (row 54 at0).toArray 0)).alloc (.cells (row 10 yr0).toArray 0)).alloc (.cells [Value.bool bad].toArray 0)) := (Below.refl _ _).alloc (by omega) _
    exact ⟨2, _, ⟨((A0.same (b1.block 0 (by omega)) b1.size).same (b2.block 0 (by omega)) b2.size), A1.same (b2.block 1 (by omega)) b2.size⟩, by omega, fl_arr A2⟩
  exact key { World.holding P default ⟨#[], #[], []⟩ with heap := #[] } rfl
theorem CallsOk.det {P : Program} {f : Nat} (hi : P.inits.idxOf? f = none) {b b1 b2 : Bool} {rest : List Value} {v u : Value} (h : CallsOk P f b rest v b1) (k : CallsOk P f b rest u b2) : v = u ∧ b1 = b2 := by
  obtain ⟨n, w, hg, h1, hw⟩ := world_ex P b
  obtain ⟨e, w', ⟨rfl, f1, _⟩, ⟨e2, f2, _⟩⟩ := calls_both hi (h.2.2 n w hg h1 hw) (k.2.2 n w hg h1 hw) (fun _ _ x => ⟨_, x.1⟩) (fun _ _ x => ⟨_, x.1⟩)
  refine ⟨by cases e2; rfl, ?_⟩
  have := f1.cell.symm.trans f2.cell
  simpa using this
/-- What is known of some kinds of functions: 1: sums, 2: products, up to 3: what is good has numbers alone. -/
def KLaw (kind : Nat) (g : Bool → Bool → List Value → Value × Bool) : Prop :=
  (kind = 1 ∨ kind = 2 → ∀ d b x y, g d b [x, y] = g d b [y, x]) ∧
  (kind = 1 → ∀ d x, numB x = true → g d false [.int .i64 x, .int .i64 0] = (.int .i64 x, false)) ∧
  (kind = 2 → ∀ d x, numB x = true → g d false [.int .i64 x, .int .i64 0] = (.int .i64 0, false)) ∧
  (kind = 1 ∨ kind = 2 ∨ kind = 3 ∨ kind = 6 → ∀ d rest, (g d false rest).2 = false → (∀ x, Value.int .i64 x ∈ rest → numB x = true) ∧ ∀ x, (g d false rest).1 = .int .i64 x → numB x = true)
/-- Is it made of numbers alone (kind 4: always so)? -/
def numC0 : Value → Bool
  | .int _ x => numB x
  | _ => false
def numV : Value → Bool
  | .agg cs => cs.toList.all numC0
  | v => numC0 v
/-- Zeros (kind 5: what is answered where the flow is bad). -/
def zero0 : Value → Value
  | .tuple ⟨[.int k (.ofNat _)]⟩ => .int k 0
  | .tuple ⟨[.bool _]⟩ => .bool false
  | v => v
def zero1 : Value → Value
  | .agg cs => .agg ⟨cs.toList.map zero0⟩
  | v => zero0 v
def zeroV : Value → Value
  | .tuple ⟨a :: b :: r⟩ => .tuple ⟨(a :: b :: r).map zero1⟩
  | v => zero1 v
/-- What a pure function answers. -/
def PureAt (P : Program) (f : Nat) (rest : List Value) (v : Value) : Prop := (∀ u ∈ rest, isP u = false) ∧ isP v = false ∧ ∀ w, GW w → Calls P f rest.toArray w fun e w' => e = .returned v ∧ Below w.heap.size w w'
/-- What a function answers (kind 8: it has no flow). -/
def CallC (P : Program) (kind f : Nat) (b : Bool) (rest : List Value) (v : Value) (b' : Bool) : Prop := (kind ≠ 8 → CallsOk P f b rest v b') ∧ (kind = 8 → PureAt P f rest v ∧ b' = b)
/-- How great answers are: sums (1) and differences (6) to the bit, products (2) nearly; of kind 7 no number is above 1. -/
def lowC (v : Value) : Bool :=
  match v with
  | .int _ x => Nat.ble x.natAbs 1099511627776
  | _ => false
def lowV : Value → Bool
  | .agg cs => cs.toList.all lowC
  | v => lowC v
def BLaw (kind : Nat) (g : Bool → Bool → List Value → Value × Bool) : Prop :=
  (kind = 1 → ∀ d x y, (g d false [.int .i64 x, .int .i64 y]).2 = false → (g d false [.int .i64 x, .int .i64 y]).1 = .int .i64 (x + y)) ∧
  (kind = 6 → ∀ d x y, ((g d false [.int .i64 x, .int .i64 y]).2 = false → (g d false [.int .i64 x, .int .i64 y]).1 = .int .i64 (x - y)) ∧ (x.natAbs ≤ 2305843009213693952 → y.natAbs ≤ 2305843009213693952 → (g d false [.int .i64 x, .int .i64 y]).2 = false)) ∧
  (kind = 2 → ∀ d x y, (g d false [.int .i64 x, .int .i64 y]).2 = false → ∃ z, (g d false [.int .i64 x, .int .i64 y]).1 = .int .i64 z ∧ z.natAbs * 1099511627776 ≤ x.natAbs * y.natAbs + 1099511627776)
def PrOkA (P : Program) (fn : Bool → Nat) (arr : List Value → List Value) (sa : List Value) (sr : Value) (kind : Nat) (g : Bool → Bool → List Value → Value × Bool) : Prop :=
  (∀ d b rest, All2 (G2 []) sa rest → CallC P kind (fn d) b (arr rest) (g d b rest).1 (g d b rest).2 ∧ (b = true → (g d b rest).2 = true) ∧ G2 [] sr (g d b rest).1 ∧ (kind = 4 → numV (g d b rest).1 = true) ∧ (kind = 1 ∨ kind = 2 ∨ kind = 3 ∨ kind = 6 → (g d b rest).2 = true → (g d b rest).1 = .int .i64 0) ∧ (kind = 5 → (g d b rest).2 = true → (g d b rest).1 = zeroV sr) ∧ (kind = 7 → (g d b rest).2 = false → lowV (g d b rest).1 = true)) ∧
  (∀ rest, All2 (G2 []) sa rest → (g false false rest).2 = (g true false rest).2 ∧ ((g false false rest).2 = false → (g false false rest).1 = (g true false rest).1)) ∧ KLaw kind g ∧ BLaw kind g
abbrev PrOk (P : Program) (fn : Bool → Nat) (sa : List Value) (sr : Value) (kind : Nat) (g : Bool → Bool → List Value → Value × Bool) : Prop := PrOkA P fn (fun r => r) sa sr kind g
/-- No name in it. -/
def nn0 (t : Value) : Bool :=
  match tkn t with
  | some (0, _, _) => true
  | some (1, _, _) => true
  | none => true
  | _ => false
def nn1 : Value → Bool
  | .agg cs => cs.toList.all nn0
  | t => nn0 t
def nn2 : Value → Bool
  | .tuple ⟨a :: b :: r⟩ => (a :: b :: r).all nn1
  | t => nn1 t
/-- Two functions, the code's (false) and the document's (true); kind 9: one function, met with more arguments than are noted. -/
structure Pr (P : Program) where
  fn : Bool → Nat
  go : ∀ d (args : Array Value) (w : World), (callFunc (fn d) args).run P w = .ok (.enter (fn d) args) w
  sa : List Value
  sr : Value
  kind : Nat
  nn : (sa.all nn2 && nn2 sr) = true
  arr : List Value → List Value
  same : kind ≠ 9 → ∀ r, arr r = r
  h : ∃ g, PrOkA P fn arr sa sr kind g
section
variable {P : Program} {τ τ' : List Int}
theorem nn0_g {t v : Value} (h : nn0 t = true) (g : G0 τ t v) : G0 τ' t v := by
  unfold nn0 at h
  unfold G0 at g ⊢
  split at h
  · rename_i e
    rw [e] at g ⊢
    exact g
  · rename_i e
    rw [e] at g ⊢
    exact g
  · rename_i e
    rw [e] at g ⊢
    exact g
  · cases h
theorem nnL {R S : Value → Value → Prop} {p : Value → Bool} (hp : ∀ t v, p t = true → R t v → S t v) : ∀ {l m : List Value}, l.all p = true → All2 R l m → All2 S l m
  | [], [], _, _ => trivial
  | t :: l, v :: m, h, g => by
    simp only [List.all_cons, Bool.and_eq_true] at h
    exact ⟨hp t v h.1 g.1, nnL hp h.2 g.2⟩
  | [], _ :: _, _, g => g.elim
  | _ :: _, [], _, g => g.elim
theorem nn1_g (t v : Value) (h : nn1 t = true) (g : G1 τ t v) : G1 τ' t v := by
  unfold nn1 at h
  split at h
  · obtain ⟨l, rfl, hl⟩ := g
    exact ⟨l, rfl, nnL (R := G0 τ) (S := G0 τ') (fun _ _ => nn0_g) h hl⟩
  · rename_i hn
    exact (nn0_g h (g.g0of hn)).g1
theorem nn2_g (t v : Value) (h : nn2 t = true) (g : G2 τ t v) : G2 τ' t v := by
  unfold nn2 at h
  split at h
  · obtain ⟨l, rfl, hl⟩ := g
    exact ⟨l, rfl, nnL (R := G1 τ) (S := G1 τ') nn1_g h hl⟩
  · rename_i hn
    exact (nn1_g _ _ h (g.g1of hn)).g2
theorem Pr.conf (pr : Pr P) {rest : List Value} (h : All2 (G2 τ) pr.sa rest) : All2 (G2 τ') pr.sa rest := by
  have := pr.nn
  rw [Bool.and_eq_true] at this
  exact nnL (R := G2 τ) (S := G2 τ') nn2_g this.1 h
theorem Pr.res (pr : Pr P) {v : Value} (h : G2 τ pr.sr v) : G2 τ' pr.sr v := by
  have := pr.nn
  rw [Bool.and_eq_true] at this
  exact nn2_g _ _ this.2 h
end
/-- A call that was noted: whose, with what, what came back. -/
abbrev Nd := Nat × List Value × Value
section
variable {P : Program} {τ : List Int}
def NGood (prs : List (Pr P)) (d : Bool) (τ : List Int) (nd : Nd) : Prop :=
  ∃ pr rest, prs[nd.1]? = some pr ∧ All2 (G2 τ) nd.2.1 rest ∧ All2 (G2 []) pr.sa rest ∧ (Classical.choose pr.h d false rest).2 = false ∧ G2 τ nd.2.2 (Classical.choose pr.h d false rest).1
theorem NGood.ext {prs : List (Pr P)} {d : Bool} {τ' : List Int} (hx : Ext τ τ') {nd : Nd} (h : NGood prs d τ nd) : NGood prs d τ' nd :=
  let ⟨pr, rest, h1, h2, h3, h4, h5⟩ := h
  ⟨pr, rest, h1, h2.imp fun _ _ k => k.ext hx, h3, h4, h5.ext hx⟩
/-- What flows' own steps answer is a number, the flow being good or not. -/
def NumR (prs : List (Pr P)) (τ : List Int) (nd : Nd) : Prop := ∀ pr, prs[nd.1]? = some pr → pr.kind = 1 ∨ pr.kind = 2 ∨ pr.kind = 3 ∨ pr.kind = 6 → ∀ i, nd.2.2 = sym i → ∃ x, τ[i]? = some x ∧ numB x = true
theorem NumR.ext {prs : List (Pr P)} {τ' : List Int} (hx : Ext τ τ') {nd : Nd} (h : NumR prs τ nd) : NumR prs τ' nd := fun pr h1 h2 i h3 =>
  let ⟨x, e, hb⟩ := h pr h1 h2 i h3
  ⟨x, hx.at e, hb⟩
/-- Facts on names that stand for numbers. -/
def numCL : List Value → Fct
  | [] => []
  | c :: l => (match c with
    | .tuple ⟨[.float .f64 i]⟩ => (2, sym i, .int .i64 (-4611686018427387904), false) :: (2, .int .i64 4611686018427387904, sym i, false) :: numCL l
    | _ => numCL l)
def numAdd (k : Nat) (r : Value) (F : Fct) : Fct :=
  match k with
  | 4 => (match r with
    | .agg ⟨l⟩ => numCL l ++ F
    | _ => F)
  | _ => F
theorem numCL_ok : ∀ {l m : List Value}, All2 (G0 τ) l m → m.all numC0 = true → FctOk τ (numCL l)
  | [], [], _, _ => fun f hf => by cases hf
  | c :: l, v :: m, g, h => by
    rw [List.all_cons, Bool.and_eq_true] at h
    have ih := numCL_ok g.2 h.2
    unfold numCL
    split
    · rename_i i
      obtain ⟨x, e, ev⟩ := g.1
      rw [ev] at h
      have b := numB_bd (show numB x = true from h.1)
      intro f hf
      rcases List.mem_cons.1 hf with rfl | hf
      · exact ⟨x, _, ⟨x, e, rfl⟩, ⟨rfl, rfl⟩, by show decide (x < -4611686018427387904) = false; simp; omega⟩
      · rcases List.mem_cons.1 hf with rfl | hf
        · exact ⟨_, x, ⟨rfl, rfl⟩, ⟨x, e, rfl⟩, by show decide (4611686018427387904 < x) = false; simp; omega⟩
        · exact ih f hf
    · exact ih
  | [], _ :: _, g, _ => g.elim
  | _ :: _, [], g, _ => g.elim
theorem numAdd_ok {k : Nat} {r v : Value} {F : Fct} (hF : FctOk τ F) (g : G2 τ r v) (h : k = 4 → numV v = true) : FctOk τ (numAdd k r F) := by
  unfold numAdd
  split
  · split
    · obtain ⟨l, rfl, gl⟩ := g
      intro f hf
      rcases List.mem_append.1 hf with hf | hf
      · exact numCL_ok gl (h rfl) f hf
      · exact hF f hf
    · exact hF
  · exact hF
/-- Of a run that notes: how many names there are, and if the flow is good all calls were. -/
def IO (prs : List (Pr P)) (d : Bool) (τ : List Int) (s : Nat × List Nd) (b : Bool) : Prop := τ.length = s.1 ∧ (b = false → ∀ nd ∈ s.2, NGood prs d τ nd) ∧ ∀ nd ∈ s.2, NumR prs τ nd
def plainK (k : Nat) : Bool :=
  match k with
  | 8 => false
  | 9 => false
  | _ => true
theorem not9 {k : Nat} (h : plainK k = true) : k ≠ 9 := fun e => by
  subst e
  cases h
theorem not8 {k : Nat} (h : plainK k = true) : k ≠ 8 := fun e => by
  subst e
  cases h
/-- What is answered where the flow is bad. -/
def badV {P : Program} (pr : Pr P) : Value :=
  match pr.kind with
  | 1 => .int .i64 0
  | 2 => .int .i64 0
  | 3 => .int .i64 0
  | 6 => .int .i64 0
  | _ => pr.sr
theorem badV_ok (pr : Pr P) {v : Value} (hr : G2 [] pr.sr v) (hz : pr.kind = 1 ∨ pr.kind = 2 ∨ pr.kind = 3 ∨ pr.kind = 6 → v = .int .i64 0) : G2 τ (badV pr) v := by
  unfold badV
  split
  · rename_i e
    rw [hz (.inl e)]
    exact real2_same rfl
  · rename_i e
    rw [hz (.inr (.inl e))]
    exact real2_same rfl
  · rename_i e
    rw [hz (.inr (.inr (.inl e)))]
    exact real2_same rfl
  · rename_i e
    rw [hz (.inr (.inr (.inr e)))]
    exact real2_same rfl
  · exact pr.res hr
def rowO {P : Program} (pr : Pr P) (d : Bool) (p : Nat) : Rw (Nat × List Nd) where
  fn := pr.fn d
  flow := true
  run := fun _ args c F s K => plainK pr.kind && allB le2 args pr.sa && (match c with
    | .bool true => K (badV pr) (.bool true) F s
    | c => boolA c && (match s with
      | (n0, D) => nN n0 fun n0 => (match fresh pr.sr n0 with
        | some (r, n) => nN n fun n => n2 r fun r => K r unkB (numAdd pr.kind r F) (n, (p, args, r) :: D)
        | none => false)))
theorem rowO_ok {prs : List (Pr P)} (d : Bool) {p : Nat} {pr : Pr P} (hp : prs[p]? = some pr) : RwOk P (IO prs d) (rowO pr d p) where
  go := pr.go d
  okF := fun _ {args rest c F s K τ bad} h ga gc hF hI => by
    dsimp only [rowO] at h
    obtain ⟨s1, s2⟩ := s
    simp only [nN_is, n2_is] at h
    rw [Bool.and_eq_true, Bool.and_eq_true] at h
    have hc : All2 (G2 []) pr.sa rest := pr.conf (leL_ok h.1.2 ga)
    obtain ⟨hcl, hst, hr, hnum, hz, _⟩ := (Classical.choose_spec pr.h).1 d bad rest hc
    have hkl := (Classical.choose_spec pr.h).2.2.1.2.2.2
    rw [pr.same (not9 h.1.1)] at hcl
    obtain ⟨q1, q2, q3⟩ := hcl.1 (not8 h.1.1)
    have h2 := h.2
    split at h2
    · have e := gc.1
      cases e
      have hst := hst rfl
      exact ⟨_, _, τ, _, _, F, (s1, s2), h2, q1, q2, q3, Ext.refl _, badV_ok pr hr (fun k => hz k hst), by rw [hst]; exact ⟨rfl, rfl⟩, hF, hI.1, fun e => (by rw [hst] at e; cases e), hI.2.2⟩
    · rw [Bool.and_eq_true] at h2
      obtain ⟨_, h2⟩ := h2
      split at h2
      · rename_i r n hf
        have hl : τ.length = s1 := hI.1
        rw [← hl] at hf
        obtain ⟨xs, e1, gr⟩ := fresh_ok hf hr
        have hx : Ext τ (τ ++ xs) := ⟨xs, rfl⟩
        refine ⟨_, _, τ ++ xs, _, _, _, _, h2, q1, q2, q3, hx, gr, ⟨_, rfl⟩, numAdd_ok (hF.ext hx) gr hnum, e1.symm, fun e nd hnd => ?_, fun nd hnd => ?_⟩
        · cases bad with
          | true =>
            rw [hst rfl] at e
            cases e
          | false =>
            rcases List.mem_cons.1 hnd with rfl | hnd
            · exact ⟨pr, rest, hp, ga.imp fun _ _ k => k.ext hx, hc, e, gr⟩
            · exact (hI.2.1 rfl nd hnd).ext hx
        · rcases List.mem_cons.1 hnd with rfl | hnd
          · intro pr' hp' hk i hi
            have hp' : prs[p]? = some pr' := hp'
            rw [hp] at hp'
            cases hp'
            have hi : r = sym i := hi
            subst hi
            obtain ⟨x, e, ev⟩ := gr
            refine ⟨x, e, ?_⟩
            cases hb : (Classical.choose pr.h d bad rest).2 with
            | true =>
              have e0 := hz hk hb
              rw [ev] at e0
              cases e0
              decide
            | false =>
              have : bad = false := by
                cases bad with
                | false => rfl
                | true => rw [hst rfl] at hb; cases hb
              subst this
              exact (hkl hk d rest hb).2 x ev
          · exact (hI.2.2 nd hnd).ext hx
      · cases h2
  okP := fun e => by cases e
/-- A function that makes the flow bad. -/
def rowFail {σ : Type} (f : Nat) : Rw σ where
  fn := f
  flow := true
  run := fun _ args _ F s K => (match args with
    | [] => K undef (.bool true) F s
    | _ => false)
theorem rowFail_ok {σ : Type} {I : List Int → σ → Bool → Prop} {f : Nat} (go : ∀ (args : Array Value) (w : World), (callFunc f args).run P w = .ok (.enter f args) w) (hI : ∀ τ s b, I τ s b → I τ s true) (h : ∀ b, CallsOk P f b [] undef true) : RwOk P I (rowFail f) where
  go := go
  okF := fun _ {args rest c F s K τ bad} hr ga gc hF hs => by
    dsimp only [rowFail] at hr
    split at hr
    · match rest, ga with
      | [], _ =>
        obtain ⟨q1, q2, q3⟩ := h bad
        exact ⟨_, _, τ, _, _, F, s, hr, q1, q2, q3, Ext.refl _, real2_same rfl, ⟨rfl, rfl⟩, hF, hI _ _ _ hs⟩
    · cases hr
  okP := fun e => by cases e
/-! ### Calls that were noted are found again -/
def findN : List Nd → Nat → List Value → Option Value
  | [], _, _ => none
  | (p, a, r) :: l, q, args => (match Nat.beq p q && allE teq2 a args with
    | true => some r
    | false => findN l q args)
theorem findN_is : ∀ {l : List Nd} {p : Nat} {args : List Value} {r : Value}, findN l p args = some r → (p, args, r) ∈ l
  | [], _, _, _, h => by cases h
  | (q, a, u) :: l, p, args, r, h => by
    unfold findN at h
    split at h
    · rename_i e
      rw [Bool.and_eq_true] at e
      have e1 := Nat.eq_of_beq_eq_true e.1
      have e2 := allE_is teq2_is e.2
      cases h
      rw [e1, e2]
      exact List.mem_cons_self
    · exact List.mem_cons_of_mem _ (findN_is h)
/-- Which names are known to be numbers (bits); calls, by the first name of their arguments. -/
abbrev Tb := Nat × Tr (List Nd) 2
def hv (v : Value) : Nat :=
  match v with
  | .tuple ⟨[.float .f64 i]⟩ => Nat.mod i 64
  | .tuple ⟨[.agg ⟨_ :: .float .f64 i :: _⟩]⟩ => Nat.mod i 64
  | .agg ⟨.tuple ⟨[.float .f64 i]⟩ :: _⟩ => Nat.mod i 64
  | _ => 0
def hk (args : List Value) : Nat :=
  match args with
  | v :: _ => hv v
  | [] => 0
theorem hk_lt (args : List Value) : hk args < 64 := by
  unfold hk
  split
  · unfold hv
    split <;> first | exact Nat.mod_lt _ (by decide) | decide
  · decide
def findT (s : Tb) (p : Nat) (args : List Value) : Option Value := findN (getT 2 s.2 (hk args)) p args
def TbOk (prs : List (Pr P)) (d : Bool) (τ : List Int) (s : Tb) : Prop := (∀ i, i < 64 → ∀ e ∈ getT 2 s.2 i, NGood prs d τ e) ∧ ∀ i, s.1.testBit i = true → ∃ a, τ[i]? = some a ∧ numB a = true
theorem findT_ok {prs : List (Pr P)} {d : Bool} {s : Tb} (hs : TbOk prs d τ s) {p : Nat} {args : List Value} {r : Value} (h : findT s p args = some r) : NGood prs d τ (p, args, r) := hs.1 _ (hk_lt args) _ (findN_is h)
/-- Is it known to be a number? -/
def numOf (F : Fct) (m : Nat) (x : Value) : Bool :=
  match x with
  | .int _ a => numB a
  | x => (match x with
    | .tuple ⟨[.float .f64 i]⟩ => Nat.testBit m i
    | _ => false) || (match factOf F 2 x (.int .i64 (-4611686018427387904)), factOf F 2 (.int .i64 4611686018427387904) x with
    | some false, some false => true
    | _, _ => false)
def isZ : Value → Bool
  | .int .i64 x => decide (x = 0)
  | _ => false
/-- Sums and products with 0. -/
def zeroC (ks : List Nat) (F : Fct) (m : Nat) (p : Nat) (args : List Value) : Option Value :=
  match ks[p]?, args with
  | some 1, [x, y] => (match isZ y && detI x && numOf F m x with
    | true => some x
    | false => (match isZ x && detI y && numOf F m y with
      | true => some y
      | false => none))
  | some 2, [x, y] => (match isZ y && detI x && numOf F m x with
    | true => some y
    | false => (match isZ x && detI y && numOf F m y with
      | true => some x
      | false => none))
  | _, _ => none
/-- The two the other way round. -/
def swapC (ks : List Nat) (s : Tb) (p : Nat) (args : List Value) : Option Value :=
  match ks[p]?, args with
  | some 1, [x, y] => findT s p [y, x]
  | some 2, [x, y] => findT s p [y, x]
  | _, _ => none
def lookC (ks : List Nat) (F : Fct) (s : Tb) (p : Nat) (args : List Value) : Option Value :=
  match findT s p args with
  | some r => some r
  | none => (match swapC ks s p args with
    | some r => some r
    | none => zeroC ks F s.1 p args)
/-- Names in what is noted. -/
def bitV (x : Value) : Nat :=
  match x with
  | .tuple ⟨[.float .f64 i]⟩ => Nat.shiftLeft 1 i
  | _ => 0
def bitL : List Value → Nat
  | [] => 0
  | x :: l => Nat.lor (bitV x) (bitL l)
def addM (ks : List Nat) (nd : Nd) (m : Nat) : Nat :=
  match ks[nd.1]? with
  | some 1 => Nat.lor (Nat.lor (bitL nd.2.1) (bitV nd.2.2)) m
  | some 2 => Nat.lor (Nat.lor (bitL nd.2.1) (bitV nd.2.2)) m
  | some 3 => Nat.lor (Nat.lor (bitL nd.2.1) (bitV nd.2.2)) m
  | some 6 => Nat.lor (Nat.lor (bitL nd.2.1) (bitV nd.2.2)) m
  | _ => m
theorem bitV_is {x : Value} {i : Nat} (h : (bitV x).testBit i = true) : x = sym i := by
  unfold bitV at h
  split at h
  · rename_i j
    have e : Nat.shiftLeft 1 j = 2 ^ j := Nat.one_shiftLeft j
    rw [e, Nat.testBit_two_pow, decide_eq_true_eq] at h
    subst h
    rfl
  · rw [Nat.zero_testBit] at h
    cases h
theorem bitL_is : ∀ {l : List Value} {i : Nat}, (bitL l).testBit i = true → sym i ∈ l
  | [], i, h => by
    have h : Nat.testBit 0 i = true := h
    rw [Nat.zero_testBit] at h
    cases h
  | x :: l, i, h => by
    have h : (bitV x ||| bitL l).testBit i = true := h
    rw [Nat.testBit_or, Bool.or_eq_true] at h
    rcases h with h | h
    · rw [bitV_is h]
      exact List.mem_cons_self
    · exact List.mem_cons_of_mem _ (bitL_is h)
theorem addM_ok {prs : List (Pr P)} {d : Bool} {nd : Nd} (hn : NGood prs d τ nd) {m : Nat} (hm : ∀ i, m.testBit i = true → ∃ a, τ[i]? = some a ∧ numB a = true) {i : Nat} (h : (addM (prs.map (·.kind)) nd m).testBit i = true) : ∃ a, τ[i]? = some a ∧ numB a = true := by
  obtain ⟨pr, rest, h1, h2, h3, h4, h5⟩ := hn
  have own : (pr.kind = 1 ∨ pr.kind = 2 ∨ pr.kind = 3 ∨ pr.kind = 6) → ((bitL nd.2.1 ||| bitV nd.2.2) ||| m).testBit i = true → ∃ a, τ[i]? = some a ∧ numB a = true := fun hk h => by
    obtain ⟨n1, n2⟩ := (Classical.choose_spec pr.h).2.2.1.2.2.2 hk d rest h4
    rw [Nat.testBit_or, Bool.or_eq_true, Nat.testBit_or, Bool.or_eq_true] at h
    rcases h with (h | h) | h
    · obtain ⟨j, hj, hyj⟩ := List.mem_iff_getElem.1 (bitL_is h)
      obtain ⟨v, hv, b, e, gb⟩ := h2.get j (sym i) (by rw [List.getElem?_eq_getElem hj, hyj])
      subst gb
      exact ⟨b, e, n1 b (List.mem_of_getElem? hv)⟩
    · have e1 := bitV_is h
      rw [e1] at h5
      obtain ⟨b, e, gb⟩ := h5
      exact ⟨b, e, n2 b gb⟩
    · exact hm i h
  have hk : (prs.map (·.kind))[nd.1]? = some pr.kind := by rw [List.getElem?_map, h1]; rfl
  unfold addM at h
  rw [hk] at h
  split at h
  · rename_i e
    exact own (.inl (Option.some.inj e)) h
  · rename_i e
    exact own (.inr (.inl (Option.some.inj e))) h
  · rename_i e
    exact own (.inr (.inr (.inl (Option.some.inj e)))) h
  · rename_i e
    exact own (.inr (.inr (.inr (Option.some.inj e)))) h
  · exact hm i h
def addT (ks : List Nat) (nd : Nd) (s : Tb) : Tb := (addM ks nd s.1, setT 2 s.2 (hk nd.2.1) (nd :: getT 2 s.2 (hk nd.2.1)))
def addK (ks : List Nat) (nd : Nd) (s : Tb) (K : Tb → Bool) : Bool := nN (addM ks nd s.1) fun m => (slot 2 (hk nd.2.1)).get s.2 fun l => (slot 2 (hk nd.2.1)).set s.2 (nd :: l) fun t => K (m, t)
theorem addK_is (ks : List Nat) (nd : Nd) (s : Tb) (K : Tb → Bool) : addK ks nd s K = K (addT ks nd s) := by
  unfold addK
  rw [nN_is, slot_get, slot_set]
  rfl
theorem TbOk.add {prs : List (Pr P)} {d : Bool} {s : Tb} (hs : TbOk prs d τ s) {nd : Nd} (hn : NGood prs d τ nd) : TbOk prs d τ (addT (prs.map (·.kind)) nd s) := by
  refine ⟨fun i hi e he => ?_, fun i hi => addM_ok hn hs.2 hi⟩
  have he : e ∈ getT 2 (setT 2 s.2 (hk nd.2.1) (nd :: getT 2 s.2 (hk nd.2.1))) i := he
  rw [get_set 2 s.2 (hk nd.2.1) i _ (hk_lt _) hi] at he
  split at he
  · rename_i e1
    rcases List.mem_cons.1 he with rfl | he
    · exact hn
    · rw [e1] at he
      exact hs.1 i hi e he
  · exact hs.1 i hi e he
theorem NGood.use {prs : List (Pr P)} {d : Bool} {p : Nat} {args rest : List Value} {r : Value} {pr : Pr P} (h : NGood prs d τ (p, args, r)) (hp : prs[p]? = some pr) (hd : args.all det2 = true) (ga : All2 (G2 τ) args rest) : (Classical.choose pr.h d false rest).2 = false ∧ G2 τ r (Classical.choose pr.h d false rest).1 := by
  obtain ⟨pr', rest', h1, h2, h3, h4, h5⟩ := h
  have h1 : prs[p]? = some pr' := h1
  rw [hp] at h1
  cases h1
  rw [detL_g hd ga h2]
  exact ⟨h4, h5⟩
theorem isZ_is {x v : Value} (h : isZ x = true) (g : G2 τ x v) : x = .int .i64 0 ∧ v = .int .i64 0 := by
  unfold isZ at h
  split at h
  · have := of_decide_eq_true h
    subst this
    exact ⟨rfl, g.int⟩
  · cases h
theorem numOf_ok {F : Fct} (hF : FctOk τ F) {m : Nat} (hm : ∀ i, m.testBit i = true → ∃ a, τ[i]? = some a ∧ numB a = true) {x : Value} (h : numOf F m x = true) (hd : detI x = true) {a : Int} (g : G0 τ x (.int .i64 a)) : numB a = true := by
  unfold numOf at h
  split at h
  · have := g.1
    cases this
    exact h
  · rw [Bool.or_eq_true] at h
    rcases h with h | h
    · split at h
      · obtain ⟨b, e, hb⟩ := hm _ h
        obtain ⟨c, e2, hc⟩ := g
        rw [e] at e2
        cases e2
        cases hc
        exact hb
      · cases h
    · split at h
      · rename_i e1 e2
        have b1 := factOf_ok hF e1 hd rfl g (show G0 τ (.int .i64 (-4611686018427387904)) (.int .i64 (-4611686018427387904)) from ⟨rfl, rfl⟩)
        have b2 := factOf_ok hF e2 rfl hd (show G0 τ (.int .i64 4611686018427387904) (.int .i64 4611686018427387904) from ⟨rfl, rfl⟩) g
        have b1 : decide (a < -4611686018427387904) = false := b1
        have b2 : decide (4611686018427387904 < a) = false := b2
        have b1 := of_decide_eq_false b1
        have b2 := of_decide_eq_false b2
        unfold numB
        simp only [Bool.and_eq_true, decide_eq_true_eq]
        omega
      · cases h
theorem zeroC_ok {prs : List (Pr P)} {d : Bool} {F : Fct} (hF : FctOk τ F) {m : Nat} (hm : ∀ i, m.testBit i = true → ∃ a, τ[i]? = some a ∧ numB a = true) {p : Nat} {args rest : List Value} {r : Value} {pr : Pr P} (h : zeroC (prs.map (·.kind)) F m p args = some r) (hp : prs[p]? = some pr) (ga : All2 (G2 τ) args rest) :
    (Classical.choose pr.h d false rest).2 = false ∧ G2 τ r (Classical.choose pr.h d false rest).1 := by
  have hk : (prs.map (·.kind))[p]? = some pr.kind := by rw [List.getElem?_map, hp]; rfl
  have hl := (Classical.choose_spec pr.h).2.2.1
  unfold zeroC at h
  split at h
  · rename_i x y hk1
    rw [hk] at hk1
    have hk1 := Option.some.inj hk1
    match rest, ga with
    | [v, w], ga =>
    have hcm := hl.1 (.inl hk1)
    split at h
    · rename_i hz
      cases h
      simp only [Bool.and_eq_true] at hz
      obtain ⟨_, rfl⟩ := isZ_is hz.1.1 ga.2.1
      obtain ⟨a, rfl, g0⟩ := detI_is hz.1.2 ga.1
      rw [hl.2.1 hk1 d a (numOf_ok hF hm hz.2 hz.1.2 g0)]
      exact ⟨rfl, g0.g2⟩
    · split at h
      · rename_i hz
        cases h
        simp only [Bool.and_eq_true] at hz
        obtain ⟨_, rfl⟩ := isZ_is hz.1.1 ga.1
        obtain ⟨a, rfl, g0⟩ := detI_is hz.1.2 ga.2.1
        rw [hcm, hl.2.1 hk1 d a (numOf_ok hF hm hz.2 hz.1.2 g0)]
        exact ⟨rfl, g0.g2⟩
      · cases h
  · rename_i x y hk1
    rw [hk] at hk1
    have hk1 := Option.some.inj hk1
    match rest, ga with
    | [v, w], ga =>
    have hcm := hl.1 (.inr hk1)
    split at h
    · rename_i hz
      cases h
      simp only [Bool.and_eq_true] at hz
      obtain ⟨rfl, rfl⟩ := isZ_is hz.1.1 ga.2.1
      obtain ⟨a, rfl, g0⟩ := detI_is hz.1.2 ga.1
      rw [hl.2.2.1 hk1 d a (numOf_ok hF hm hz.2 hz.1.2 g0)]
      exact ⟨rfl, rfl, rfl⟩
    · split at h
      · rename_i hz
        cases h
        simp only [Bool.and_eq_true] at hz
        obtain ⟨rfl, rfl⟩ := isZ_is hz.1.1 ga.1
        obtain ⟨a, rfl, g0⟩ := detI_is hz.1.2 ga.2.1
        rw [hcm, hl.2.2.1 hk1 d a (numOf_ok hF hm hz.2 hz.1.2 g0)]
        exact ⟨rfl, rfl, rfl⟩
      · cases h
  · cases h
theorem lookC_ok {prs : List (Pr P)} {d : Bool} {F : Fct} (hF : FctOk τ F) {s : Tb} (hs : TbOk prs d τ s) {p : Nat} {args rest : List Value} {r : Value} {pr : Pr P} (h : lookC (prs.map (·.kind)) F s p args = some r) (hp : prs[p]? = some pr) (hd : args.all det2 = true) (ga : All2 (G2 τ) args rest) :
    (Classical.choose pr.h d false rest).2 = false ∧ G2 τ r (Classical.choose pr.h d false rest).1 := by
  have hk : (prs.map (·.kind))[p]? = some pr.kind := by rw [List.getElem?_map, hp]; rfl
  have hl := (Classical.choose_spec pr.h).2.2.1
  have key : ∀ {x y : Value}, pr.kind = 1 ∨ pr.kind = 2 → args = [x, y] → findT s p [y, x] = some r → (Classical.choose pr.h d false rest).2 = false ∧ G2 τ r (Classical.choose pr.h d false rest).1 := fun {x y} hk1 e hu => by
    subst e
    match rest, ga with
    | [v, w], ga =>
    simp only [List.all_cons, List.all_nil, Bool.and_true, Bool.and_eq_true] at hd
    rw [hl.1 hk1]
    exact (findT_ok hs hu).use hp (by simp [hd.1, hd.2]) ⟨ga.2.1, ga.1, trivial⟩
  unfold lookC at h
  split at h
  · rename_i u hu
    cases h
    exact (findT_ok hs hu).use hp hd ga
  · split at h
    · rename_i u hu
      cases h
      unfold swapC at hu
      split at hu
      · rename_i hk1 _
        rw [hk] at hk1
        exact key (.inl (Option.some.inj hk1)) rfl hu
      · rename_i hk1 _
        rw [hk] at hk1
        exact key (.inr (Option.some.inj hk1)) rfl hu
      · cases hu
    · exact zeroC_ok hF hs.2 h hp ga
/-- Both sides' answers are alike where one is good. -/
theorem PrOkA.other {fn : Bool → Nat} {arr : List Value → List Value} {sa : List Value} {sr : Value} {kind : Nat} {g : Bool → Bool → List Value → Value × Bool} (h : PrOkA P fn arr sa sr kind g) {d : Bool} {rest : List Value} (hc : All2 (G2 []) sa rest) (hg : (g d false rest).2 = false) : (g (!d) false rest).2 = false ∧ (g (!d) false rest).1 = (g d false rest).1 := by
  obtain ⟨e1, e2⟩ := h.2.1 rest hc
  cases d with
  | false => exact ⟨e1.symm.trans hg, (e2 hg).symm⟩
  | true =>
    have hf := e1.trans hg
    exact ⟨hf, e2 hf⟩
/-! How great named numbers are at most -/
def hasN (i : Nat) (r : Value) : Bool :=
  match r with
  | .agg cs => cs.toList.any fun c => teq c (sym i)
  | r => teq r (sym i)
def allN (t : Tr (List Nd) 2) : List Nd := (List.range 64).flatMap (getT 2 t)
def bnd (ks : List Nat) (L : List Nd) : Nat → Value → Option Nat
  | 0, _ => none
  | n + 1, x => (match x with
    | .int .i64 a => some a.natAbs
    | .tuple ⟨[.float .f64 i]⟩ => (match L.find? (fun nd => hasN i nd.2.2) with
      | some (p, args, _) => (match ks[p]?, args with
        | some 1, [a, b] => (match bnd ks L n a, bnd ks L n b with
          | some u, some w => some (u + w)
          | _, _ => none)
        | some 6, [a, b] => (match bnd ks L n a, bnd ks L n b with
          | some u, some w => some (u + w)
          | _, _ => none)
        | some 2, [a, b] => (match bnd ks L n a, bnd ks L n b with
          | some u, some w => some (u * w / 1099511627776 + 1)
          | _, _ => none)
        | some 7, _ => some 1099511627776
        | _, _ => none)
      | none => none)
    | _ => none)
theorem bnd_int {ks : List Nat} {L : List Nd} {n : Nat} {x v : Value} {B : Nat} (h : bnd ks L n x = some B) (g : G2 τ x v) : ∃ a, v = .int .i64 a ∧ G0 τ x (.int .i64 a) := by
  match n, h with
  | n + 1, h =>
  unfold bnd at h
  split at h
  · have := g.int
    subst this
    exact ⟨_, rfl, rfl, rfl⟩
  · obtain ⟨a, e, rfl⟩ := g
    exact ⟨a, rfl, a, e, rfl⟩
  · cases h
theorem hasN_val {i : Nat} {r v : Value} (h : hasN i r = true) (g : G2 τ r v) {a : Int} (e : τ[i]? = some a) : v = .int .i64 a ∨ ∃ l, v = .agg ⟨l⟩ ∧ Value.int .i64 a ∈ l := by
  unfold hasN at h
  split at h
  · obtain ⟨l, rfl, gl⟩ := g
    obtain ⟨c, hc, h⟩ := List.any_eq_true.1 h
    have e1 := teq_is h
    subst e1
    obtain ⟨j, hj, ej⟩ := List.mem_iff_getElem.1 hc
    obtain ⟨w, hw, b, e2, rfl⟩ := gl.get j (sym i) (by rw [List.getElem?_eq_getElem hj, ej])
    rw [e] at e2
    cases e2
    exact .inr ⟨l, rfl, List.mem_of_getElem? hw⟩
  · have e1 := teq_is h
    subst e1
    obtain ⟨b, e2, rfl⟩ := g
    rw [e] at e2
    cases e2
    exact .inl rfl
theorem bnd_ok {prs : List (Pr P)} {d : Bool} {L : List Nd} (hL : ∀ e ∈ L, NGood prs d τ e) : ∀ (n : Nat) {x : Value} {B : Nat}, bnd (prs.map (·.kind)) L n x = some B → ∀ {a : Int}, G0 τ x (.int .i64 a) → a.natAbs ≤ B
  | 0, _, _, h, _, _ => by cases h
  | n + 1, x, B, h, a, g => by
    have ih := fun {x : Value} {B : Nat} h {a : Int} g => bnd_ok hL n (x := x) (B := B) h (a := a) g
    unfold bnd at h
    split at h
    · cases h
      have := g.1
      cases this
      exact Nat.le_refl _
    · rename_i i
      obtain ⟨a', e, k⟩ := g
      cases k
      split at h
      · rename_i p args r hf
        have hm := List.mem_of_find?_eq_some hf
        have hN : hasN i r = true := by
          have := List.find?_some hf
          exact this
        obtain ⟨pr, rest, h1, h2, h3, h4, h5⟩ := hL _ hm
        have h1 : prs[p]? = some pr := h1
        have hk : (prs.map (·.kind))[p]? = some pr.kind := by rw [List.getElem?_map, h1]; rfl
        obtain ⟨hcl, _, hr, _, _, _, h7⟩ := (Classical.choose_spec pr.h).1 d false rest h3
        have hB := (Classical.choose_spec pr.h).2.2.2
        have hv := hasN_val hN h5 e
        generalize hy : Classical.choose pr.h = g at *
        have two : ∀ {x y : Value} {u w : Nat}, args = [x, y] → bnd (prs.map (·.kind)) L n x = some u → bnd (prs.map (·.kind)) L n y = some w → ∃ s t : Int, rest = [.int .i64 s, .int .i64 t] ∧ s.natAbs ≤ u ∧ t.natAbs ≤ w := fun {x y u w} ea hu hw => by
          have h2 : All2 (G2 τ) args rest := h2
          rw [ea] at h2
          match rest, h2 with
          | [v1, v2], h2 =>
          obtain ⟨s, rfl, gs⟩ := bnd_int hu h2.1
          obtain ⟨t, rfl, gt⟩ := bnd_int hw h2.2.1
          exact ⟨s, t, rfl, ih hu gs, ih hw gt⟩
        have one : ∀ {z : Int}, (g d false rest).1 = .int .i64 z → a = z := fun {z} ez => by
          rcases hv with hv | ⟨l, hv, _⟩
          · rw [ez] at hv
            cases hv
            rfl
          · rw [ez] at hv
            cases hv
        split at h
        · rename_i x y hk1
          rw [hk] at hk1
          have hk1 := Option.some.inj hk1
          split at h
          · rename_i u w hu hw
            cases h
            obtain ⟨s, t, rfl, b1, b2⟩ := two rfl hu hw
            rw [one (hB.1 hk1 d s t h4)]
            omega
          · cases h
        · rename_i x y hk1
          rw [hk] at hk1
          have hk1 := Option.some.inj hk1
          split at h
          · rename_i u w hu hw
            cases h
            obtain ⟨s, t, rfl, b1, b2⟩ := two rfl hu hw
            rw [one ((hB.2.1 hk1 d s t).1 h4)]
            omega
          · cases h
        · rename_i x y hk1
          rw [hk] at hk1
          have hk1 := Option.some.inj hk1
          split at h
          · rename_i u w hu hw
            cases h
            obtain ⟨s, t, rfl, b1, b2⟩ := two rfl hu hw
            obtain ⟨z, ez, hz⟩ := hB.2.2 hk1 d s t h4
            rw [one ez]
            have hm := Nat.mul_le_mul b1 b2
            have h5 : z.natAbs * 1099511627776 ≤ u * w + 1099511627776 := by omega
            have h6 : z.natAbs ≤ (u * w + 1099511627776) / 1099511627776 := (Nat.le_div_iff_mul_le (by decide)).2 h5
            rw [Nat.add_div_right _ (by decide)] at h6
            exact h6
          · cases h
        · rename_i hk1
          rw [hk] at hk1
          have hk1 := Option.some.inj hk1
          cases h
          have hlow := h7 hk1 h4
          rcases hv with hv | ⟨l, hv, hm⟩
          · rw [hv] at hlow
            exact Nat.le_of_ble_eq_true hlow
          · rw [hv] at hlow
            exact Nat.le_of_ble_eq_true (List.all_eq_true.1 (show l.all lowC = true from hlow) _ hm)
        · cases h
      · cases h
    · cases h
theorem allN_ok {prs : List (Pr P)} {d : Bool} {s : Tb} (hs : TbOk prs d τ s) : ∀ e ∈ allN s.2, NGood prs d τ e := fun e he => by
  obtain ⟨i, hi, h⟩ := List.mem_flatMap.1 he
  exact hs.1 i (List.mem_range.1 hi) e h
/-- Is it a difference of numbers that are small? -/
def smallK (ks : List Nat) (s : Tb) (p : Nat) (args : List Value) : Bool :=
  match ks[p]?, args with
  | some 6, [x, y] => (match bnd ks (allN s.2) 8 x, bnd ks (allN s.2) 8 y with
    | some u, some w => Nat.ble u 2305843009213693952 && Nat.ble w 2305843009213693952
    | _, _ => false)
  | _, _ => false
theorem smallK_ok {prs : List (Pr P)} {d d' : Bool} {s : Tb} (hs : TbOk prs d τ s) {p : Nat} {args rest : List Value} {pr : Pr P} (h : smallK (prs.map (·.kind)) s p args = true) (hp : prs[p]? = some pr) (ga : All2 (G2 τ) args rest) : (Classical.choose pr.h d' false rest).2 = false := by
  have hk : (prs.map (·.kind))[p]? = some pr.kind := by rw [List.getElem?_map, hp]; rfl
  unfold smallK at h
  split at h
  · rename_i x y hk1
    rw [hk] at hk1
    have hk1 := Option.some.inj hk1
    split at h
    · rename_i u w hu hw
      rw [Bool.and_eq_true] at h
      match rest, ga with
      | [v1, v2], ga =>
      obtain ⟨a, rfl, g1⟩ := bnd_int hu ga.1
      obtain ⟨b, rfl, g2⟩ := bnd_int hw ga.2.1
      have b1 := bnd_ok (allN_ok hs) 8 hu g1
      have b2 := bnd_ok (allN_ok hs) 8 hw g2
      have c1 := Nat.le_of_ble_eq_true h.1
      have c2 := Nat.le_of_ble_eq_true h.2
      exact ((Classical.choose_spec pr.h).2.2.2.2.1 hk1 d' a b).2 (by omega) (by omega)
    · cases h
  · cases h
def IC (prs : List (Pr P)) (d : Bool) (τ : List Int) (s : Tb) (_ : Bool) : Prop := TbOk prs d τ s
/-- The other side's function, of calls that were noted. -/
def rowC {P : Program} (pr : Pr P) (ks : List Nat) (d : Bool) (p : Nat) : Rw Tb where
  fn := pr.fn (!d)
  flow := true
  run := fun _ args c F s K => (match c with
    | .bool false => plainK pr.kind && args.all det2 && allB le2 args pr.sa && (match lookC ks F s p args with
      | some r => n2 r fun r => K r (.bool false) F s
      | none => smallK ks s p args && K pr.sr (.bool false) F s)
    | _ => false)
theorem rowC_ok {prs : List (Pr P)} {ks : List Nat} (hks : ks = prs.map (·.kind)) (d : Bool) {p : Nat} {pr : Pr P} (hp : prs[p]? = some pr) : RwOk P (IC prs d) (rowC pr ks d p) where
  go := pr.go (!d)
  okF := fun _ {args rest c F s K τ bad} h ga gc hF hI => by
    dsimp only [rowC] at h
    split at h
    · have e := gc.1
      cases e
      simp only [Bool.and_eq_true] at h
      have hc : All2 (G2 []) pr.sa rest := pr.conf (leL_ok h.1.2 ga)
      have h2 := h.2
      split at h2
      · rename_i r hr
        rw [n2_is] at h2
        rw [hks] at hr
        obtain ⟨g1, g2⟩ := lookC_ok hF hI hr hp h.1.1.2 ga
        obtain ⟨o1, o2⟩ := (Classical.choose_spec pr.h).other hc g1
        obtain ⟨hcl, _⟩ := (Classical.choose_spec pr.h).1 (!d) false rest hc
        rw [pr.same (not9 h.1.1.1)] at hcl
        obtain ⟨q1, q2, q3⟩ := hcl.1 (not8 h.1.1.1)
        exact ⟨_, _, τ, _, _, F, s, h2, q1, q2, q3, Ext.refl _, by rw [o2]; exact g2, by rw [o1]; exact ⟨rfl, rfl⟩, hF, hI⟩
      · rw [Bool.and_eq_true, hks] at h2
        have o1 := smallK_ok (d' := !d) hI h2.1 hp ga
        obtain ⟨hcl, _, hr, _⟩ := (Classical.choose_spec pr.h).1 (!d) false rest hc
        rw [pr.same (not9 h.1.1.1)] at hcl
        obtain ⟨q1, q2, q3⟩ := hcl.1 (not8 h.1.1.1)
        exact ⟨_, _, τ, _, _, F, s, h2.2, q1, q2, q3, Ext.refl _, pr.res hr, by rw [o1]; exact ⟨rfl, rfl⟩, hF, hI⟩
    · cases h
  okP := fun e => by cases e
/-! ### Pure functions that answer a bool: told apart, and noted -/
def isUB (t : Value) : Bool :=
  match t with
  | .tuple ⟨[.bool _]⟩ => true
  | _ => false
theorem isUB_is {t v : Value} (h : isUB t = true) (g : G2 τ t v) : ∃ b, v = .bool b := by
  unfold isUB at h
  split at h
  · exact g
  · cases h
def pureK (k : Nat) : Bool :=
  match k with
  | 8 => true
  | _ => false
theorem is8 {k : Nat} (h : pureK k = true) : k = 8 := by
  unfold pureK at h
  split at h
  · rfl
  · cases h
def rowPO {P : Program} (pr : Pr P) (d : Bool) (p : Nat) : Rw (Nat × List Nd) where
  fn := pr.fn d
  flow := false
  nt := true
  run := fun _ args c F s K => pureK pr.kind && allB le2 args pr.sa && isUB pr.sr && (match s with
    | (n0, D) => K (.bool true) c F (n0, (p, args, .bool true) :: D) && K (.bool false) c F (n0, (p, args, .bool false) :: D))
theorem rowPO_ok {prs : List (Pr P)} (d : Bool) {p : Nat} {pr : Pr P} (hp : prs[p]? = some pr) : RwOk P (IO prs d) (rowPO pr d p) where
  go := pr.go d
  okF := fun e => by cases e
  okP := fun _ e => by cases e
  okN := fun _ {args rest c F s K τ bad} h ga hF hI => by
    dsimp only [rowPO] at h
    obtain ⟨s1, s2⟩ := s
    simp only [Bool.and_eq_true] at h
    obtain ⟨⟨⟨h8, hl⟩, hu⟩, h1, h2⟩ := h
    have h8 := is8 h8
    have hc : All2 (G2 []) pr.sa rest := pr.conf (leL_ok hl ga)
    obtain ⟨hcl, _, hr, _⟩ := (Classical.choose_spec pr.h).1 d false rest hc
    obtain ⟨b, hb⟩ := isUB_is hu hr
    rw [pr.same (by omega)] at hcl
    obtain ⟨⟨q1, q2, q3⟩, e⟩ := hcl.2 h8
    have fin : IO prs d τ (s1, (p, args, .bool b) :: s2) bad := ⟨hI.1, fun e2 nd hnd => by
      rcases List.mem_cons.1 hnd with rfl | hnd
      · exact ⟨pr, rest, hp, ga, hc, e, by rw [hb]; exact real2_same rfl⟩
      · exact hI.2.1 e2 nd hnd, fun nd hnd => by
      rcases List.mem_cons.1 hnd with rfl | hnd
      · intro pr' _ _ i hi
        cases hi
      · exact hI.2.2 nd hnd⟩
    rw [hb] at q2 q3
    cases b with
    | true => exact ⟨_, τ, _, F, _, h1, q1, q2, q3, Ext.refl _, real2_same rfl, hF, fin⟩
    | false => exact ⟨_, τ, _, F, _, h2, q1, q2, q3, Ext.refl _, real2_same rfl, hF, fin⟩
def rowPC {P : Program} (pr : Pr P) (d : Bool) (p : Nat) : Rw Tb where
  fn := pr.fn (!d)
  flow := false
  nt := true
  run := fun _ args c F s K => pureK pr.kind && args.all det2 && allB le2 args pr.sa && (match findT s p args with
    | some r => n2 r fun r => K r c F s
    | none => false)
theorem rowPC_ok {prs : List (Pr P)} (d : Bool) {p : Nat} {pr : Pr P} (hp : prs[p]? = some pr) : RwOk P (IC prs d) (rowPC pr d p) where
  go := pr.go (!d)
  okF := fun e => by cases e
  okP := fun _ e => by cases e
  okN := fun _ {args rest c F s K τ bad} h ga hF hI => by
    dsimp only [rowPC] at h
    simp only [Bool.and_eq_true] at h
    obtain ⟨⟨⟨h8, hd⟩, hl⟩, h2⟩ := h
    have h8 := is8 h8
    have hc : All2 (G2 []) pr.sa rest := pr.conf (leL_ok hl ga)
    split at h2
    · rename_i r hr
      rw [n2_is] at h2
      obtain ⟨g1, g2⟩ := (findT_ok hI hr).use hp hd ga
      obtain ⟨o1, o2⟩ := (Classical.choose_spec pr.h).other hc g1
      obtain ⟨hcl, _⟩ := (Classical.choose_spec pr.h).1 (!d) false rest hc
      rw [pr.same (by omega)] at hcl
      obtain ⟨⟨q1, q2, q3⟩, e⟩ := hcl.2 h8
      exact ⟨_, τ, _, F, _, h2, q1, q2, q3, Ext.refl _, by rw [o2]; exact g2, hF, hI⟩
    · cases h2
/-- A pair of pure functions. -/
theorem pr_pure {fn : Bool → Nat} {sa : List Value} {sr : Value} {S : List Value → Value} (h : ∀ d rest, All2 (G2 []) sa rest → PureAt P (fn d) rest (S rest)) (hr : ∀ rest, All2 (G2 []) sa rest → G2 [] sr (S rest)) : ∃ g, PrOk P fn sa sr 8 g :=
  ⟨fun _ b rest => (S rest, b), fun d b rest hc => ⟨⟨fun e => absurd rfl e, fun _ => ⟨h d rest hc, rfl⟩⟩, fun e => e, hr rest hc, fun e => (by omega), fun e => (by omega), fun e => (by omega), fun e => (by omega)⟩, fun _ _ => ⟨rfl, fun _ => rfl⟩, ⟨fun e => by omega, fun e => by omega, fun e => by omega, fun e => by omega⟩, ⟨fun e => by omega, fun e => by omega, fun e => by omega⟩⟩
end
end Go.Proofs.YtoadcnhcfodkgaaGreatDoor.Nx
