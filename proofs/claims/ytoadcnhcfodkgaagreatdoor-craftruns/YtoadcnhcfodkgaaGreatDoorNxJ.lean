/-
  A run over names: names that stand for one thing, and a pair of functions shown to be one, for the seat YtoadcnhcfodkgaaGreatDoor. No Go text in sight.
-/
import Derived.Test.YtoadcnhcfodkgaaGreatDoorNxI
namespace Go.Proofs.YtoadcnhcfodkgaaGreatDoor.Nx
open Go.RowKit Go.Proofs.YtoadcnhcfodkgaaGreatDoor

/-! ### Names that stand for what has another name -/
abbrev Als := List (Nat × Value)
def lookA : Als → Nat → Option Value
  | [], _ => none
  | (i, u) :: l, j => (match Nat.beq i j with
    | true => some u
    | false => lookA l j)
/-- The same, and a number whose bits tell which names there are. -/
abbrev Alm := Nat × Als
def lookM (al : Alm) (i : Nat) : Option Value :=
  match Nat.testBit al.1 i with
  | true => lookA al.2 i
  | false => none
theorem lookM_is {al : Alm} {i : Nat} {u : Value} (h : lookM al i = some u) : lookA al.2 i = some u := by
  unfold lookM at h
  split at h
  · exact h
  · cases h
def subA (al : Alm) : List Value → List Value
  | [] => []
  | a :: l => (match a with
    | .float .f64 i => (match (lookM al i).bind codeX with
      | some c => c ++ subA al l
      | none => .float .f64 i :: subA al l)
    | a => a :: subA al l)
def sub0 (al : Alm) (t : Value) : Value :=
  match t with
  | .tuple ⟨[.float .f64 i]⟩ => (match lookM al i with
    | some u => u
    | none => .tuple ⟨[.float .f64 i]⟩)
  | .tuple ⟨[.agg ⟨l⟩]⟩ => .tuple ⟨[.agg ⟨subA al l⟩]⟩
  | t => t
def addAK : Als → Alm → (Alm → Bool) → Bool
  | [], al, K => K al
  | (i, u) :: z, al, K => nN i fun i => n0 u fun u => nN (Nat.lor (Nat.shiftLeft 1 i) al.1) fun m => addAK z (m, (i, u) :: al.2) K
def sub1 (al : Alm) : Value → Value
  | .agg cs => .agg ⟨cs.toList.map (sub0 al)⟩
  | t => sub0 al t
def sub2 (al : Alm) : Value → Value
  | .tuple ⟨a :: b :: r⟩ => .tuple ⟨(a :: b :: r).map (sub1 al)⟩
  | t => sub1 al t
def subF (al : Alm) (f : Nat × Value × Value × Bool) : Nat × Value × Value × Bool := (f.1, sub0 al f.2.1, sub0 al f.2.2.1, f.2.2.2)
section
variable {τ : List Int}
def AlOk (τ : List Int) (al : Als) : Prop := ∀ e ∈ al, ∃ x, τ[e.1]? = some x ∧ G0 τ e.2 (.int .i64 x)
theorem lookA_mem : ∀ {al : Als} {i : Nat} {u : Value}, lookA al i = some u → (i, u) ∈ al
  | [], _, _, h => by cases h
  | (j, w) :: al, i, u, h => by
    unfold lookA at h
    split at h
    · rename_i e
      cases h
      rw [Nat.eq_of_beq_eq_true e]
      exact List.mem_cons_self
    · exact List.mem_cons_of_mem _ (lookA_mem h)
theorem subA_ok {al : Alm} (ha : AlOk τ al.2) : ∀ (l : List Value) (st r : List Int), evR τ st l = some r → evR τ st (subA al l) = some r
  | [], _, _, h => h
  | a :: l, st, r, h => by
    have ih := subA_ok ha l
    unfold evR at h
    split at h
    · rename_i e
      cases e
    · rename_i e
      cases e
      exact ih _ _ h
    · rename_i e
      cases e
      split at h
      · rename_i x hx
        unfold subA
        dsimp only
        cases hu : (lookM al _).bind codeX with
        | some c =>
          obtain ⟨u, h1, h2⟩ := Option.bind_eq_some_iff.1 hu
          obtain ⟨y, e, g⟩ := ha _ (lookA_mem (lookM_is h1))
          have e : τ[_]? = some y := e
          rw [hx] at e
          cases e
          dsimp only
          rw [codeX_ok h2 g]
          exact ih _ _ h
        | none =>
          show (match τ[_]? with
            | some x => evR τ (x :: _) (subA al l)
            | none => none) = some r
          rw [hx]
          exact ih _ _ h
      · cases h
    · rename_i e
      cases e
      split at h
      · rename_i x hx
        show (match opE _ _ _ with
          | some r => evR τ (r :: _) (subA al l)
          | none => none) = some r
        rw [hx]
        exact ih _ _ h
      · cases h
    · cases h
theorem sub0_ok {al : Alm} (ha : AlOk τ al.2) (t v : Value) (g : G0 τ t v) : G0 τ (sub0 al t) v := by
  unfold sub0
  split
  · split
    · rename_i hu
      obtain ⟨x, e, gx⟩ := ha _ (lookA_mem (lookM_is hu))
      obtain ⟨y, e2, rfl⟩ := g
      rw [e] at e2
      cases e2
      exact gx
    · exact g
  · rename_i l
    obtain ⟨x, e, rfl⟩ := g
    refine ⟨x, ?_, rfl⟩
    unfold evX at e ⊢
    dsimp only at e ⊢
    split at e
    · rename_i y hy
      cases e
      rw [subA_ok ha _ _ _ hy]
    · cases e
  · exact g
theorem sub1_ok {al : Alm} (ha : AlOk τ al.2) (t v : Value) (g : G1 τ t v) : G1 τ (sub1 al t) v := by
  unfold sub1
  split
  · obtain ⟨l, rfl, hl⟩ := g
    exact ⟨l, rfl, hl.onL (R := G0 τ) (sub0_ok ha)⟩
  · rename_i hn
    exact (sub0_ok ha _ _ (g.g0of hn)).g1
theorem sub2_ok {al : Alm} (ha : AlOk τ al.2) (t v : Value) (g : G2 τ t v) : G2 τ (sub2 al t) v := by
  unfold sub2
  split
  · obtain ⟨l, rfl, hl⟩ := g
    exact ⟨l, rfl, hl.onL (R := G1 τ) (sub1_ok ha)⟩
  · rename_i hn
    exact (sub1_ok ha _ _ (g.g1of hn)).g2
theorem subF_ok {al : Alm} (ha : AlOk τ al.2) {F : Fct} (h : FctOk τ F) : FctOk τ (F.map (subF al)) := fun f hf => by
  obtain ⟨g, hg, rfl⟩ := List.mem_map.1 hf
  obtain ⟨a, b, h1, h2, h3⟩ := h g hg
  exact ⟨a, b, sub0_ok ha _ _ h1, sub0_ok ha _ _ h2, h3⟩
/-- Names of one answer for those of another. -/
def zip0 (r u : Value) : Als :=
  match r with
  | .tuple ⟨[.float .f64 i]⟩ => [(i, u)]
  | _ => []
def zipL (z : Value → Value → Als) : List Value → List Value → Als
  | a :: l, b :: m => z a b ++ zipL z l m
  | _, _ => []
def zip1 (r u : Value) : Als :=
  match r, u with
  | .agg cs, .agg ds => zipL zip0 cs.toList ds.toList
  | .agg _, _ => []
  | _, .agg _ => []
  | r, u => zip0 r u
def zip2 (r u : Value) : Als :=
  match r, u with
  | .tuple ⟨a :: b :: l⟩, .tuple ⟨c :: d :: m⟩ => zipL zip1 (a :: b :: l) (c :: d :: m)
  | .tuple ⟨_ :: _ :: _⟩, _ => []
  | _, .tuple ⟨_ :: _ :: _⟩ => []
  | r, u => zip1 r u
theorem AlOk.nil : AlOk τ [] := fun _ h => by cases h
theorem AlOk.app {a b : Als} (ha : AlOk τ a) (hb : AlOk τ b) : AlOk τ (a ++ b) := fun e h => (List.mem_append.1 h).elim (ha e) (hb e)
theorem addAK_ok : ∀ {z : Als} {al : Alm} {K : Alm → Bool}, addAK z al K = true → AlOk τ z → AlOk τ al.2 → ∃ al' : Alm, K al' = true ∧ AlOk τ al'.2
  | [], al, _, h, _, ha => ⟨al, h, ha⟩
  | (i, u) :: z, al, K, h, hz, ha => by
    unfold addAK at h
    rw [nN_is, n0_is, nN_is] at h
    exact addAK_ok h (fun e he => hz e (List.mem_cons_of_mem _ he)) (fun e he => by
      rcases List.mem_cons.1 he with rfl | he
      · exact hz _ List.mem_cons_self
      · exact ha e he)
theorem zip0_ok {r u v : Value} (h : G0 τ r v) (k : G0 τ u v) : AlOk τ (zip0 r u) := by
  unfold zip0
  split
  · rename_i j
    intro e he
    rw [List.mem_singleton.1 he]
    obtain ⟨x, e1, rfl⟩ := h
    exact ⟨x, e1, k⟩
  · exact .nil
theorem zipL_ok {R : Value → Value → Prop} {z : Value → Value → Als} (hz : ∀ r u v, R r v → R u v → AlOk τ (z r u)) : ∀ {l m vs : List Value}, All2 R l vs → All2 R m vs → AlOk τ (zipL z l m)
  | [], _, _, _, _ => .nil
  | _ :: _, [], _, _, _ => .nil
  | _ :: _, _ :: _, _ :: _, h, k => (hz _ _ _ h.1 k.1).app (zipL_ok hz h.2 k.2)
  | _ :: _, _ :: _, [], h, _ => h.elim
theorem zip1_ok (r u v : Value) (h : G1 τ r v) (k : G1 τ u v) : AlOk τ (zip1 r u) := by
  unfold zip1
  split
  · obtain ⟨l, rfl, hl⟩ := h
    obtain ⟨m, e, hm⟩ := k
    cases e
    exact zipL_ok (R := G0 τ) (fun _ _ _ => zip0_ok) hl hm
  · exact .nil
  · exact .nil
  · rename_i h1 h2 _
    exact zip0_ok (h.g0of (fun cs e => h1 cs e)) (k.g0of (fun cs e => h2 cs e))
theorem zip2_ok (r u v : Value) (h : G2 τ r v) (k : G2 τ u v) : AlOk τ (zip2 r u) := by
  unfold zip2
  split
  · obtain ⟨l, rfl, hl⟩ := h
    obtain ⟨m, e, hm⟩ := k
    cases e
    exact zipL_ok (R := G1 τ) zip1_ok hl hm
  · exact .nil
  · exact .nil
  · rename_i h1 h2 _
    exact zip1_ok _ _ _ (h.g1of (fun a b r e => h1 a b r e)) (k.g1of (fun a b r e => h2 a b r e))
end
/-- Calls in the order in which they came, each by the names that were there first. -/
def canonR (ks : List Nat) : List Nd → Alm → Tb → (Alm → Tb → Bool) → Bool
  | [], al, ct, K => K al ct
  | (p, args, r) :: D, al, ct, K => nN p fun p => nF (args.map (sub2 al)) fun args => n2 r fun r => match args.all det2 with
    | true => (match zeroC ks [] (addM ks (p, args, r) ct.1) p args with
      | some u => addAK (zip2 r u) al fun al => addK ks (p, args, u) ct fun ct => canonR ks D al ct K
      | none => (match lookC ks [] ct p args with
        | some u => addAK (zip2 r u) al fun al => canonR ks D al ct K
        | none => addK ks (p, args, r) ct fun ct => canonR ks D al ct K))
    | false => addK ks (p, args, r) ct fun ct => canonR ks D al ct K
section
variable {P : Program} {τ : List Int}
theorem canonR_ok {prs : List (Pr P)} {d : Bool} {K : Alm → Tb → Bool} : ∀ {D : List Nd} {al : Alm} {ct : Tb}, canonR (prs.map (·.kind)) D al ct K = true → (∀ nd ∈ D, NGood prs d τ nd) → AlOk τ al.2 → TbOk prs d τ ct → ∃ al' ct', K al' ct' = true ∧ AlOk τ al'.2 ∧ TbOk prs d τ ct'
  | [], al, ct, h, _, ha, hc => ⟨al, ct, h, ha, hc⟩
  | (p, args, r) :: D, al, ct, h, hD, ha, hc => by
    have hD' := fun nd hnd => hD nd (List.mem_cons_of_mem _ hnd)
    obtain ⟨pr, rest, h1, h2, h3, h4, h5⟩ := hD _ List.mem_cons_self
    have h2' : All2 (G2 τ) (args.map (sub2 al)) rest := h2.onL (R := G2 τ) (sub2_ok ha)
    unfold canonR at h
    rw [nN_is, nF_is, n2_is] at h
    have i3 : NGood prs d τ (p, args.map (sub2 al), r) := ⟨pr, rest, h1, h2', h3, h4, h5⟩
    have n0 : FctOk τ [] := fun f hf => by cases hf
    split at h
    · rename_i hd
      split at h
      · rename_i u hu
        obtain ⟨_, g⟩ := zeroC_ok n0 (fun i hi => addM_ok i3 hc.2 hi) hu h1 h2'
        obtain ⟨al', h, ha'⟩ := addAK_ok h (zip2_ok _ _ _ h5 g) ha
        rw [addK_is] at h
        exact canonR_ok h hD' ha' (hc.add ⟨pr, rest, h1, h2', h3, h4, g⟩)
      · split at h
        · rename_i u hu
          obtain ⟨_, g⟩ := lookC_ok n0 hc hu h1 hd h2'
          obtain ⟨al', h, ha'⟩ := addAK_ok h (zip2_ok _ _ _ h5 g) ha
          exact canonR_ok h hD' ha' hc
        · rw [addK_is] at h
          exact canonR_ok h hD' ha (hc.add i3)
    · rw [addK_is] at h
      exact canonR_ok h hD' ha (hc.add i3)
theorem TbOk.none {prs : List (Pr P)} {d : Bool} : TbOk prs d τ (0, fullT [] 2) := by
  constructor
  · intro i _ e he
    have he : e ∈ getT 2 (fullT ([] : List Nd) 2) i := he
    rw [full_get] at he
    cases he
  · intro i h
    have h : Nat.testBit 0 i = true := h
    rw [Nat.zero_testBit] at h
    cases h
/-! Lists worked out ahead of going on. -/
def nFct : Fct → (Fct → Bool) → Bool
  | [], K => K []
  | (c, x, y, b) :: l, K => nN c fun c => n0 x fun x => n0 y fun y => nB b fun b => nFct l fun l => K ((c, x, y, b) :: l)
theorem nFct_is : ∀ (l : Fct) (K : Fct → Bool), nFct l K = K l
  | [], _ => rfl
  | (c, x, y, b) :: l, K => by
    unfold nFct
    rw [nN_is, n0_is, n0_is, nB_is, nFct_is l]
/-! ### One function held against another -/
def isFl : Value → Bool
  | .bool b => !b
  | _ => false
def isTr : Value → Bool
  | .bool b => b
  | _ => false
theorem isFl_is {c : Value} {b : Bool} (h : isFl c = true) (g : G0 τ c (.bool b)) : b = false := by
  unfold isFl at h
  split at h
  · have := g.1
    cases this
    simpa using h
  · cases h
theorem isTr_is {c : Value} {b : Bool} (h : isTr c = true) (g : G0 τ c (.bool b)) : b = true := by
  unfold isTr at h
  split at h
  · have := g.1
    cases this
    exact h
  · cases h
/-- What is a number isn't out of their range. -/
def numFs (m : Nat) : Nat → Fct
  | 0 => []
  | i + 1 => (match Nat.testBit m i with
    | true => (2, sym i, .int .i64 (-4611686018427387904), false) :: (2, .int .i64 4611686018427387904, sym i, false) :: numFs m i
    | false => numFs m i)
def contra (m : Nat) (F : Fct) : Bool := F.any fun f => match f with
  | (2, .tuple ⟨[.float .f64 i]⟩, .int .i64 c, true) => decide (c ≤ -4611686018427387904) && Nat.testBit m i
  | (2, .int .i64 c, .tuple ⟨[.float .f64 i]⟩, true) => decide (4611686018427387904 ≤ c) && Nat.testBit m i
  | _ => false
def NumM (τ : List Int) (m : Nat) : Prop := ∀ i, m.testBit i = true → ∃ a, τ[i]? = some a ∧ numB a = true
theorem NumM.val {m : Nat} (hm : NumM τ m) {i : Nat} (h : Nat.testBit m i = true) : ∃ a, τ[i]? = some a ∧ -4611686018427387904 ≤ a ∧ a ≤ 4611686018427387904 := by
  obtain ⟨a, e, hb⟩ := hm i h
  exact ⟨a, e, numB_bd hb⟩
theorem numFs_ok {m : Nat} (hm : NumM τ m) : ∀ n, FctOk τ (numFs m n)
  | 0 => fun f hf => by cases hf
  | n + 1 => by
    unfold numFs
    split
    · rename_i h
      obtain ⟨a, ha, b1, b2⟩ := hm.val h
      intro f hf
      rcases List.mem_cons.1 hf with rfl | hf
      · exact ⟨a, _, ⟨a, ha, rfl⟩, ⟨rfl, rfl⟩, by show decide (a < -4611686018427387904) = false; simp; omega⟩
      · rcases List.mem_cons.1 hf with rfl | hf
        · exact ⟨_, a, ⟨rfl, rfl⟩, ⟨a, ha, rfl⟩, by show decide (4611686018427387904 < a) = false; simp; omega⟩
        · exact numFs_ok hm n f hf
    · exact numFs_ok hm n
theorem contra_not {m : Nat} (hm : NumM τ m) {F : Fct} (hF : FctOk τ F) : contra m F = false := by
  cases h : contra m F with
  | false => rfl
  | true =>
    exfalso
    unfold contra at h
    obtain ⟨f, hf, h⟩ := List.any_eq_true.1 h
    obtain ⟨a, b, h1, h2, h3⟩ := hF f hf
    split at h
    · rw [Bool.and_eq_true, decide_eq_true_eq] at h
      obtain ⟨x, hx, b1, b2⟩ := hm.val h.2
      obtain ⟨y, e1, e2⟩ := h1
      cases e2
      rw [hx] at e1
      cases e1
      have e3 := h2.1
      cases e3
      have h3 : decide (_ < _) = true := h3
      have := of_decide_eq_true h3
      omega
    · rw [Bool.and_eq_true, decide_eq_true_eq] at h
      obtain ⟨x, hx, b1, b2⟩ := hm.val h.2
      obtain ⟨y, e1, e2⟩ := h2
      cases e2
      rw [hx] at e1
      cases e1
      have e3 := h1.1
      cases e3
      have h3 : decide (_ < _) = true := h3
      have := of_decide_eq_true h3
      omega
    · cases h
def padO (n : Nat) (s : Nat × List Nd) : Nat × List Nd :=
  match Nat.ble s.1 n with
  | true => (n, [])
  | false => s
def padJ (s : Nat × List Nd) : Nat × List Nd :=
  match Nat.beq s.1 1000001 with
  | true => (1000001, [])
  | false => padO 1000000 s
def eqO : EqT (Nat × List Nd) := (fun a b => match Nat.beq a.1 1000001 with
  | true => Nat.beq b.1 1000001
  | false => Nat.ble a.1 1000000 && Nat.ble b.1 1000000, padJ, padO 1000001, fun s => Nat.beq s.1 1000001)
def eqC : EqT Tb := (fun _ _ => false, fun s => s, fun s => s, fun _ => false)
theorem long_of {τ : List Int} {k n : Nat} (h : τ.length = k) (hk : Nat.ble k n = true) : ∃ τ', Ext τ τ' ∧ τ'.length = n := ⟨τ ++ List.replicate (n - k) 0, ⟨_, rfl⟩, by
  have := Nat.le_of_ble_eq_true hk
  rw [List.length_append, List.length_replicate]
  omega⟩
theorem padO_ok {prs : List (Pr P)} {d : Bool} (n : Nat) {τ : List Int} {s : Nat × List Nd} (k : IO prs d τ s true) : ∃ τ', Ext τ τ' ∧ IO prs d τ' (padO n s) true := by
  unfold padO
  cases hs : Nat.ble s.1 n with
  | true =>
    obtain ⟨τ', hx, hl⟩ := long_of k.1 hs
    exact ⟨τ', hx, hl, fun e => (by cases e), fun _ h => (by cases h)⟩
  | false => exact ⟨τ, Ext.refl τ, k⟩
theorem eqO_ok {prs : List (Pr P)} {d : Bool} : EqOk (IO prs d) eqO := by
  constructor
  · intro τ s s2 h k
    have h : (match Nat.beq s.1 1000001 with
      | true => Nat.beq s2.1 1000001
      | false => Nat.ble s.1 1000000 && Nat.ble s2.1 1000000) = true := h
    show ∃ τ', Ext τ τ' ∧ IO prs d τ' (padJ s) true
    unfold padJ
    cases hb : Nat.beq s.1 1000001 with
    | true =>
      rw [hb] at h
      have e2 := Nat.eq_of_beq_eq_true h
      exact ⟨τ, Ext.refl τ, k.1.trans e2, fun e => (by cases e), fun _ h => (by cases h)⟩
    | false =>
      rw [hb] at h
      have h : (Nat.ble s.1 1000000 && Nat.ble s2.1 1000000) = true := h
      rw [Bool.and_eq_true] at h
      obtain ⟨τ', hx, hl⟩ := long_of k.1 h.2
      refine ⟨τ', hx, ?_⟩
      show IO prs d τ' (padO 1000000 s) true
      unfold padO
      rw [h.1]
      exact ⟨hl, fun e => (by cases e), fun _ h => (by cases h)⟩
  · intro τ s k
    exact padO_ok 1000001 k
theorem eqC_ok {I : List Int → Tb → Bool → Prop} : EqOk I eqC := ⟨fun τ s s2 h _ => (by cases h), fun τ s k => ⟨τ, Ext.refl τ, k⟩⟩
/-- Names that stand for numbers, whatever the flow is. -/
def numN (ks : List Nat) : List Nd → Nat
  | [] => 0
  | nd :: l => (match ks[nd.1]? with
    | some 1 => Nat.lor (bitV nd.2.2) (numN ks l)
    | some 2 => Nat.lor (bitV nd.2.2) (numN ks l)
    | some 3 => Nat.lor (bitV nd.2.2) (numN ks l)
    | some 6 => Nat.lor (bitV nd.2.2) (numN ks l)
    | _ => numN ks l)
def numE0 (m : Nat) (c : Value) : Bool :=
  match c with
  | .int _ x => numB x
  | .tuple ⟨[.float .f64 i]⟩ => Nat.testBit m i
  | .tuple ⟨[.agg ⟨[.int .i64 0, .float .f64 i, .float .f32 1]⟩]⟩ => Nat.testBit m i
  | _ => false
def numE (m : Nat) (t : Value) : Bool :=
  match t with
  | .agg ⟨l⟩ => l.all (numE0 m)
  | t => numE0 m t
theorem numN_ok {prs : List (Pr P)} {τ : List Int} : ∀ {l : List Nd}, (∀ nd ∈ l, NumR prs τ nd) → NumM τ (numN (prs.map (·.kind)) l)
  | [], _, i, h => by
    have h : Nat.testBit 0 i = true := h
    rw [Nat.zero_testBit] at h
    cases h
  | nd :: l, hl, i, h => by
    have ih := fun h => numN_ok (fun nd hnd => hl nd (List.mem_cons_of_mem _ hnd)) i h
    have own : ∀ k, (prs.map (·.kind))[nd.1]? = some k → k = 1 ∨ k = 2 ∨ k = 3 ∨ k = 6 → (bitV nd.2.2 ||| numN (prs.map (·.kind)) l).testBit i = true → ∃ a, τ[i]? = some a ∧ numB a = true := fun k hk h3 h => by
      rw [Nat.testBit_or, Bool.or_eq_true] at h
      rcases h with h | h
      · rw [List.getElem?_map] at hk
        obtain ⟨pr, h1, rfl⟩ := Option.map_eq_some_iff.1 hk
        exact hl nd List.mem_cons_self pr h1 h3 i (bitV_is h)
      · exact ih h
    unfold numN at h
    split at h
    · rename_i e
      exact own 1 e (.inl rfl) h
    · rename_i e
      exact own 2 e (.inr (.inl rfl)) h
    · rename_i e
      exact own 3 e (.inr (.inr (.inl rfl))) h
    · rename_i e
      exact own 6 e (.inr (.inr (.inr rfl))) h
    · exact ih h
theorem numE0_ok {τ : List Int} {m : Nat} (hm : NumM τ m) {c v : Value} (h : numE0 m c = true) (g : G0 τ c v) : numC0 v = true := by
  unfold numE0 at h
  split at h
  · rw [g.1]
    exact h
  · obtain ⟨x, e, rfl⟩ := g
    obtain ⟨y, e2, hb⟩ := hm _ h
    rw [e] at e2
    cases e2
    exact hb
  · rename_i i
    obtain ⟨x, e, rfl⟩ := g
    obtain ⟨y, e2, hb⟩ := hm _ h
    have e : (match (match τ[i]? with
      | some x => some [negI x]
      | none => none) with
      | some [x] => some x
      | _ => none) = some x := by
      rw [← e]
      show _ = (match (match τ[i]? with
        | some x => evR τ [x, 0] [.float .f32 1]
        | none => none) with
        | some [x] => some x
        | _ => none)
      rw [e2]
      rfl
    rw [e2] at e
    have e : some (negI y) = some x := e
    cases e
    have b := numB_bd hb
    show numB (negI y) = true
    have : negI y = -y := by
      unfold negI
      rw [IntWalk.i64_in _ (by omega)]
      omega
    rw [this]
    unfold numB
    simp only [Bool.and_eq_true, decide_eq_true_eq]
    omega
  · cases h
theorem numEL_ok {τ : List Int} {m : Nat} (hm : NumM τ m) : ∀ {l vs : List Value}, l.all (numE0 m) = true → All2 (G0 τ) l vs → vs.all numC0 = true
  | [], [], _, _ => rfl
  | c :: l, v :: vs, h, g => by
    rw [List.all_cons, Bool.and_eq_true] at h ⊢
    exact ⟨numE0_ok hm h.1 g.1, numEL_ok hm h.2 g.2⟩
  | [], _ :: _, _, g => g.elim
  | _ :: _, [], _, g => g.elim
theorem numE_ok {τ : List Int} {m : Nat} (hm : NumM τ m) {t v : Value} (h : numE m t = true) (g : G2 τ t v) : numV v = true := by
  unfold numE at h
  split at h
  · obtain ⟨l, rfl, gl⟩ := g
    exact numEL_ok hm h gl
  · have key : G0 τ t v := by
      unfold numE0 at h
      split at h
      · exact g
      · exact g
      · exact g
      · cases h
    have := numE0_ok hm h key
    unfold numC0 at this
    split at this
    · exact this
    · cases this
/-- What else is told of an answer: of kind 4 it is made of numbers; of kind 5 it is zeros where the flow is bad. -/
def okKind (kk : Nat) : Bool := Nat.beq kk 0 || Nat.beq kk 4 || Nat.beq kk 5
def endOk (kk : Nat) (ks : List Nat) (sr t c : Value) (l : List Nd) : Bool :=
  match kk with
  | 0 => true
  | 4 => numE (numN ks l) t
  | 5 => isFl c || (teq2 t (zeroV sr) && real2 (zeroV sr))
  | _ => false
def EndP (kk : Nat) (sr v : Value) (b : Bool) : Prop := (kk = 4 → numV v = true) ∧ (kk = 5 → b = true → v = zeroV sr)
theorem endOk_ok {prs : List (Pr P)} {τ : List Int} {kk : Nat} {sr t c v : Value} {b : Bool} {l : List Nd} (h : endOk kk (prs.map (·.kind)) sr t c l = true) (hl : ∀ nd ∈ l, NumR prs τ nd) (gt : G2 τ t v) (gc : G0 τ c (.bool b)) : EndP kk sr v b := by
  unfold endOk at h
  split at h
  · exact ⟨fun e => (by omega), fun e => (by omega)⟩
  · exact ⟨fun _ => numE_ok (numN_ok hl) h gt, fun e => (by omega)⟩
  · refine ⟨fun e => (by omega), fun _ hb => ?_⟩
    rw [Bool.or_eq_true, Bool.and_eq_true] at h
    rcases h with h | h
    · have := isFl_is h gc
      rw [this] at hb
      cases hb
    · rw [teq2_is _ _ h.1] at gt
      exact real2_eq _ _ h.2 gt
  · cases h
/-- Where the first is good the second is, and answers the same. -/
def half (P : Program) (ks : List Nat) (tA : List (Rw (Nat × List Nd))) (dA : Nat → List Nat) (nA : Nat) (fnA : Func) (cA : Code) (tB : List (Rw Tb)) (dB : Nat → List Nat) (nB : Nat) (fnB : Func) (cB : Code) (sa : List Value) (sr : Value) (kk : Nat) : Bool :=
  match freshA sa 0 with
  | some (args, n) => nF args fun args => nN n fun n => runF P eqO tA dA nA fnA cA args (.bool false) [] (n, []) (fun t c F s => le2 t sr && endOk kk ks sr t c s.2 && (isTr c || canonR ks s.2.reverse (0, []) (0, fullT [] 2) fun al ct => nFct (F.map (subF al)) fun F' => contra ct.1 F' || nFct (numFs ct.1 (Nat.min s.1 64) ++ F') fun F' => runF P eqC tB dB nB fnB cB args (.bool false) F' ct (fun u c' _ _ => isFl c' && det2 u && teq2 (sub2 al t) u)))
  | none => false
theorem half_ok (hm : P.follows .mixedOrders = true) {prs : List (Pr P)} {d : Bool} {ks : List Nat} (hks : ks = prs.map (·.kind)) {tA : List (Rw (Nat × List Nd))} (hA : TOk P (IO prs d) tA) {dA : Nat → List Nat} {nA : Nat} {fA : Nat} {fnA : Func} {cA : Code} (hfA : P.funcs[fA]? = some fnA) (hbA : fnA.body = some cA)
    {tB : List (Rw Tb)} (hB : TOk P (IC prs d) tB) {dB : Nat → List Nat} {nB : Nat} {fB : Nat} {fnB : Func} {cB : Code} (hfB : P.funcs[fB]? = some fnB) (hbB : fnB.body = some cB) {sa : List Value} {sr : Value} {kk : Nat} (hsr : nn2 sr = true) (h : half P ks tA dA nA fnA cA tB dB nB fnB cB sa sr kk = true) (rest : List Value) (g : All2 (G2 []) sa rest) :
    ∃ v b, CallsOk P fA false rest v b ∧ G2 [] sr v ∧ (b = false → CallsOk P fB false rest v false) ∧ EndP kk sr v b := by
  unfold half at h
  split at h
  · rename_i args n hfr
    rw [nF_is, nN_is] at h
    obtain ⟨ys, e1, ga⟩ := freshA_ok (τ := []) hfr g
    rw [List.nil_append] at e1 ga
    obtain ⟨v, b, τ1, t, c, F, s, hK, q1, q2, q3, hx, gt, gc, hF, hI⟩ := runF_ok eqO_ok hA hm hfA hbA h ga ⟨rfl, rfl⟩ (fun f hf => by cases hf) ⟨e1.symm, fun _ nd hnd => (by cases hnd), fun nd hnd => (by cases hnd)⟩
    rw [Bool.and_eq_true, Bool.and_eq_true, Bool.or_eq_true] at hK
    subst hks
    refine ⟨v, b, ⟨q1, q2, q3⟩, nn2_g _ _ hsr (le2_ok hK.1.1 gt), fun hb => ?_, endOk_ok hK.1.2 hI.2.2 gt gc⟩
    subst hb
    rcases hK.2 with h2 | h2
    · have := isTr_is h2 gc
      cases this
    · obtain ⟨al, ct, h2, a1, a2⟩ := canonR_ok h2 (fun nd hnd => hI.2.1 rfl nd (List.mem_reverse.1 hnd)) (AlOk.nil (τ := τ1)) TbOk.none
      rw [nFct_is, contra_not a2.2 (subF_ok a1 hF), Bool.false_or, nFct_is] at h2
      have hF' : FctOk τ1 (numFs ct.1 (Nat.min s.1 64) ++ F.map (subF al)) := fun f hf => (List.mem_append.1 hf).elim (numFs_ok a2.2 _ f) (subF_ok a1 hF f)
      obtain ⟨v2, b2, τ2, u, c2, F2, s2, hK2, r1, r2, r3, hx2, gu, gc2, hF2, hI2⟩ := runF_ok eqC_ok hB hm hfB hbB h2 (ga.imp fun _ _ k => k.ext hx) ⟨rfl, rfl⟩ hF' a2
      simp only [Bool.and_eq_true] at hK2
      have eb := isFl_is hK2.1.1 gc2
      subst eb
      have et := teq2_is _ _ hK2.2
      have g1 := (sub2_ok a1 t v gt).ext hx2
      rw [et] at g1
      have ev := det2_g _ _ _ hK2.1.2 gu g1
      subst ev
      exact ⟨r1, r2, r3⟩
  · cases h
/-- Where the flow is bad it stays so. -/
def badR (P : Program) (ks : List Nat) (tA : List (Rw (Nat × List Nd))) (dA : Nat → List Nat) (nA : Nat) (fnA : Func) (cA : Code) (sa : List Value) (sr : Value) (kk : Nat) : Bool :=
  runF P eqO tA dA nA fnA cA sa (.bool true) [] (0, []) (fun t c _ s => le2 t sr && isTr c && endOk kk ks sr t c s.2)
theorem badR_ok (hm : P.follows .mixedOrders = true) {prs : List (Pr P)} {d : Bool} {ks : List Nat} {kk : Nat} (hks : kk ≠ 0 → ks = prs.map (·.kind)) {tA : List (Rw (Nat × List Nd))} (hA : TOk P (IO prs d) tA) {dA : Nat → List Nat} {nA : Nat} {fA : Nat} {fnA : Func} {cA : Code} (hfA : P.funcs[fA]? = some fnA) (hbA : fnA.body = some cA) {sa : List Value} {sr : Value} (hsr : nn2 sr = true) (h : badR P ks tA dA nA fnA cA sa sr kk = true) (rest : List Value) (g : All2 (G2 []) sa rest) :
    ∃ v, CallsOk P fA true rest v true ∧ G2 [] sr v ∧ EndP kk sr v true := by
  unfold badR at h
  obtain ⟨v, b, τ1, t, c, F, s, hK, q1, q2, q3, hx, gt, gc, hF, hI⟩ := runF_ok (τ := []) eqO_ok hA hm hfA hbA h g ⟨rfl, rfl⟩ (fun f hf => by cases hf) ⟨rfl, fun e => (by cases e), fun nd hnd => (by cases hnd)⟩
  rw [Bool.and_eq_true, Bool.and_eq_true] at hK
  have := isTr_is hK.1.2 gc
  subst this
  refine ⟨v, ⟨q1, q2, q3⟩, nn2_g _ _ hsr (le2_ok hK.1.1 gt), ?_⟩
  by_cases hk : kk = 0
  · subst hk
    exact ⟨fun e => (by omega), fun e => (by omega)⟩
  · have h2 := hK.2
    rw [hks hk] at h2
    exact endOk_ok h2 hI.2.2 gt gc
/-! ### Functions that a run goes into -/
def pureR (P : Program) (tA : List (Rw (Nat × List Nd))) (n : Nat) (fnA : Func) (cA : Code) (sa : List Value) (sr : Value) : Bool := runP P eqO tA (fun _ => []) n fnA cA sa [] (0, []) (fun t _ => le2 t sr)
theorem pureR_ok (hm : P.follows .mixedOrders = true) {prs : List (Pr P)} {d : Bool} {tA : List (Rw (Nat × List Nd))} (hA : TOk P (IO prs d) tA) {n : Nat} {fA : Nat} {fnA : Func} {cA : Code} (hfA : P.funcs[fA]? = some fnA) (hbA : fnA.body = some cA) {sa : List Value} {sr : Value} (hsr : nn2 sr = true) (h : pureR P tA n fnA cA sa sr = true) (rest : List Value) (g : All2 (G2 []) sa rest) :
    ∃ v, PureAt P fA rest v ∧ G2 [] sr v := by
  unfold pureR at h
  obtain ⟨v, t, F, hK, q1, q2, q3, gt, hF⟩ := runP_ok (τ := []) eqO_ok hA hm hfA hbA h g (fun f hf => by cases hf)
  exact ⟨v, ⟨q1, q2, q3⟩, nn2_g _ _ hsr (le2_ok hK gt)⟩
/-- Whose number, is there a flow, rounds, shapes of arguments and answer. -/
abbrev Ent := Nat × Bool × Nat × List Value × Value
def neL : List Value → Bool
  | [] => false
  | _ => true
/-- Are these arguments such that it is known by itself (no shapes: none are)? -/
def fitE (e : Ent) (args : List Value) : Bool := neL e.2.2.2.1 && allB le2 args e.2.2.2.1
def runE {σ : Type} (eq : EqT σ) (tbl : List (Rw σ)) (e : Ent) (P : Program) (args : List Value) (b : Value) (F : Fct) (s : σ) (K : Value → Value → Fct → σ → Bool) : Bool :=
  match P.funcs[e.1]? with
  | some fn => (match fn.body with
    | some c => (match e.2.1 with
      | true => (match b with
        | .bool true => (match fitE e args with
          | true => K e.2.2.2.2 (.bool true) F s
          | false => runF P eq tbl (fun _ => []) e.2.2.1 fn c args (.bool true) F s K)
        | b => runF P eq tbl (fun _ => []) e.2.2.1 fn c args b F s K)
      | false => (match args.all det2 with
        | true => runP P eq tbl (fun _ => []) e.2.2.1 fn c args F s (fun t F' => K t b F' s)
        | false => (match fitE e args with
          | true => K e.2.2.2.2 b F s
          | false => runP P eq tbl (fun _ => []) e.2.2.1 fn c args F s (fun t F' => K t b F' s))))
    | none => false)
  | none => false
def rowE {σ : Type} (eq : EqT σ) (tbl : List (Rw σ)) (e : Ent) : Rw σ := { fn := e.1, flow := e.2.1, run := runE eq tbl e }
/-- What is shown of it by itself. -/
def EntOk (P : Program) (e : Ent) : Prop := (∀ (args : Array Value) (w : World), (callFunc e.1 args).run P w = .ok (.enter e.1 args) w) ∧ e.2.2.2.1.all nn2 = true ∧ nn2 e.2.2.2.2 = true ∧
  (neL e.2.2.2.1 = true → e.2.1 = true → ∀ rest, All2 (G2 []) e.2.2.2.1 rest → ∃ v, CallsOk P e.1 true rest v true ∧ G2 [] e.2.2.2.2 v) ∧ (neL e.2.2.2.1 = true → e.2.1 = false → ∀ rest, All2 (G2 []) e.2.2.2.1 rest → ∃ v, PureAt P e.1 rest v ∧ G2 [] e.2.2.2.2 v)
theorem rowE_ok (hm : P.follows .mixedOrders = true) {σ : Type} {I : List Int → σ → Bool → Prop} {eq : EqT σ} (heq : EqOk I eq) {tbl : List (Rw σ)} (hT : TOk P I tbl) {e : Ent} (he : EntOk P e) : RwOk P I (rowE eq tbl e) where
  go := he.1
  okF := fun hfl {args rest c' F s K τ bad} h g gb hF hI => by
    have h : runE eq tbl e P args c' F s K = true := h
    have hfl : e.2.1 = true := hfl
    unfold runE at h
    split at h
    · rename_i fn hf
      split at h
      · rename_i c hb
        rw [hfl] at h
        dsimp only at h
        split at h
        · have eb := gb.1
          cases eb
          split at h
          rotate_left
          · exact runF_ok heq hT hm hf hb h g gb hF hI
          rename_i hfit
          unfold fitE at hfit
          rw [Bool.and_eq_true] at hfit
          have g0 : All2 (G2 []) e.2.2.2.1 rest := nnL (R := G2 τ) (S := G2 []) nn2_g he.2.1 (leL_ok hfit.2 g)
          obtain ⟨v, ⟨q1, q2, q3⟩, gv⟩ := he.2.2.2.1 hfit.1 hfl rest g0
          exact ⟨v, true, τ, _, _, F, s, h, q1, q2, q3, Ext.refl _, nn2_g _ _ he.2.2.1 gv, ⟨rfl, rfl⟩, hF, hI⟩
        · exact runF_ok heq hT hm hf hb h g gb hF hI
      · cases h
    · cases h
  okP := fun hfl _ {args rest c' F s K τ} h g hF => by
    have h : runE eq tbl e P args c' F s K = true := h
    have hfl : e.2.1 = false := hfl
    unfold runE at h
    split at h
    · rename_i fn hf
      split at h
      · rename_i c hb
        rw [hfl] at h
        dsimp only at h
        split at h
        · exact runP_ok (I := I) heq hT hm hf hb h g hF
        · split at h
          rotate_left
          · exact runP_ok (I := I) heq hT hm hf hb h g hF
          rename_i hfit
          unfold fitE at hfit
          rw [Bool.and_eq_true] at hfit
          have g0 : All2 (G2 []) e.2.2.2.1 rest := nnL (R := G2 τ) (S := G2 []) nn2_g he.2.1 (leL_ok hfit.2 g)
          obtain ⟨v, ⟨q1, q2, q3⟩, gv⟩ := he.2.2.2.2 hfit.1 hfl rest g0
          exact ⟨v, _, F, h, q1, q2, q3, nn2_g _ _ he.2.2.1 gv, hF⟩
      · cases h
    · cases h
theorem pr_of {fn : Bool → Nat} {kk : Nat} (hkk : okKind kk = true) (hi : ∀ d, P.inits.idxOf? (fn d) = none) {sa : List Value} {sr : Value}
    (h0 : ∀ rest, All2 (G2 []) sa rest → ∃ v b, CallsOk P (fn false) false rest v b ∧ G2 [] sr v ∧ (b = false → CallsOk P (fn true) false rest v false) ∧ EndP kk sr v b)
    (h1 : ∀ rest, All2 (G2 []) sa rest → ∃ v b, CallsOk P (fn true) false rest v b ∧ G2 [] sr v ∧ (b = false → CallsOk P (fn false) false rest v false) ∧ EndP kk sr v b)
    (hb : ∀ d rest, All2 (G2 []) sa rest → ∃ v, CallsOk P (fn d) true rest v true ∧ G2 [] sr v ∧ EndP kk sr v true) : ∃ g, PrOk P fn sa sr kk g := by
  have hn : kk = 0 ∨ kk = 4 ∨ kk = 5 := by
    unfold okKind at hkk
    rw [Bool.or_eq_true, Bool.or_eq_true] at hkk
    rcases hkk with (h | h) | h
    · exact .inl (Nat.eq_of_beq_eq_true h)
    · exact .inr (.inl (Nat.eq_of_beq_eq_true h))
    · exact .inr (.inr (Nat.eq_of_beq_eq_true h))
  have key : ∀ x : Bool × Bool × List Value, ∃ y : Value × Bool, All2 (G2 []) sa x.2.2 → CallC P kk (fn x.1) x.2.1 x.2.2 y.1 y.2 ∧ (x.2.1 = true → y.2 = true) ∧ G2 [] sr y.1 ∧ (kk = 4 → numV y.1 = true) ∧ (kk = 1 ∨ kk = 2 ∨ kk = 3 ∨ kk = 6 → y.2 = true → y.1 = .int .i64 0) ∧ (kk = 5 → y.2 = true → y.1 = zeroV sr) ∧ (kk = 7 → y.2 = false → lowV y.1 = true) := by
    have hk : ∀ (v : Value) (b : Bool), EndP kk sr v b → (kk = 4 → numV v = true) ∧ (kk = 1 ∨ kk = 2 ∨ kk = 3 ∨ kk = 6 → b = true → v = .int .i64 0) ∧ (kk = 5 → b = true → v = zeroV sr) ∧ (kk = 7 → b = false → lowV v = true) := fun v b h => ⟨h.1, fun e => (by omega), h.2, fun e => (by omega)⟩
    rintro ⟨d, b, rest⟩
    by_cases hc : All2 (G2 []) sa rest
    · cases b with
      | true =>
        obtain ⟨v, k1, k2, k3⟩ := hb d rest hc
        exact ⟨(v, true), fun _ => ⟨⟨fun _ => k1, fun e => (by omega)⟩, fun _ => rfl, k2, hk v true k3⟩⟩
      | false =>
        cases d with
        | false =>
          obtain ⟨v, b, k1, k2, _, k3⟩ := h0 rest hc
          exact ⟨(v, b), fun _ => ⟨⟨fun _ => k1, fun e => (by omega)⟩, fun e => (by cases e), k2, hk v b k3⟩⟩
        | true =>
          obtain ⟨v, b, k1, k2, _, k3⟩ := h1 rest hc
          exact ⟨(v, b), fun _ => ⟨⟨fun _ => k1, fun e => (by omega)⟩, fun e => (by cases e), k2, hk v b k3⟩⟩
    · exact ⟨(undef, false), fun e => absurd e hc⟩
  refine ⟨fun d b rest => Classical.choose (key (d, b, rest)), fun d b rest hc => Classical.choose_spec (key (d, b, rest)) hc, fun rest hc => ?_, ?_⟩
  · dsimp only
    obtain ⟨k0, _⟩ := Classical.choose_spec (key (false, false, rest)) hc
    obtain ⟨k1, _⟩ := Classical.choose_spec (key (true, false, rest)) hc
    generalize Classical.choose (key (false, false, rest)) = y0 at *
    generalize Classical.choose (key (true, false, rest)) = y1 at *
    obtain ⟨v, b, a1, _, a3, _⟩ := h0 rest hc
    obtain ⟨w, c, c1, _, c3, _⟩ := h1 rest hc
    obtain ⟨e1, e2⟩ := (k0.1 (by omega)).det (hi false) a1
    obtain ⟨e3, e4⟩ := (k1.1 (by omega)).det (hi true) c1
    have hbc : b = c := by
      cases b with
      | false => exact ((c1.det (hi true) (a3 rfl)).2).symm
      | true =>
        cases c with
        | true => rfl
        | false => exact (a1.det (hi false) (c3 rfl)).2
    refine ⟨e2.trans (hbc.trans e4.symm), fun e => ?_⟩
    have hb0 : b = false := e2.symm.trans e
    exact e1.trans ((((k1.1 (by omega)).det (hi true) (a3 hb0)).1).symm)
  · refine ⟨⟨fun e => ?_, fun e => ?_, fun e => ?_, fun e => ?_⟩, fun e => ?_, fun e => ?_, fun e => ?_⟩ <;> (exfalso; omega)
end
end Go.Proofs.YtoadcnhcfodkgaaGreatDoor.Nx
