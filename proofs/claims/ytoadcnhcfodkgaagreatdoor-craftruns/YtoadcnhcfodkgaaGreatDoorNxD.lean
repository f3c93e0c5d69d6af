/-
  A run over names: one operation, for the seat YtoadcnhcfodkgaaGreatDoor. No Go text in sight.
-/
import Derived.Test.YtoadcnhcfodkgaaGreatDoorNxC
namespace Go.Proofs.YtoadcnhcfodkgaaGreatDoor.Nx
open Go.RowKit Go.Proofs.YtoadcnhcfodkgaaGreatDoor

def realR (r : Option Value) : Option Value :=
  match r with
  | some v => if real2 v then some v else none
  | none => none
def allReal (o : Oper) (ρ : Operand → Value) : Bool := o.op.operands.all fun x => real2 (ρ x)
def aMax (b : Builtin) (l : List Value) : Option Value :=
  match b, l with
  | .max, x :: r => (match kindA x with
    | some k => if r.all (fun y => kindA y == some k) then some (unk k) else none
    | none => none)
  | .min, x :: r => (match kindA x with
    | some k => if r.all (fun y => kindA y == some k) then some (unk k) else none
    | none => none)
  | _, _ => none
/-- What an operation yields that changes nothing. -/
def aq (P : Program) (F : Fct) (cl : Nat → Bool) (id : Nat) (o : Oper) (ρ : Operand → Value) (m : Xm) : Option Value :=
  if o.op.operands.all okA then
    match o.op with
    | .move x => some (ρ x)
    | .assign x => some (ρ x)
    | .pick c a b => aPick (ρ c) (ρ a) (ρ b)
    | .load t x =>
      match ρ x with
      | .pointer (some ⟨k, off, none⟩) => if cl k then (match m[k]? with
        | some l => (match loadV P t l off with
          | some v => if isP v then none else some v
          | none => none)
        | none => none) else none
      | _ => none
    | .fieldAddr s x f =>
      match ρ x with
      | .pointer (some ⟨k, off, none⟩) => (match fieldV P s f with
        | some d => some (.pointer (some ⟨k, off + d, none⟩))
        | none => none)
      | _ => none
    | .indexAddr t x ix =>
      match ρ x with
      | .pointer (some ⟨k, off, none⟩) => (match indexV P t (ρ ix) with
        | some d => some (.pointer (some ⟨k, off + d, none⟩))
        | none => none)
      | _ => none
    | .nilCheck x =>
      match ρ x with
      | .pointer (some a) => some (.pointer (some a))
      | _ => none
    | .alloc _ => some (.pointer (some ⟨id, 0, none⟩))
    | .store _ _ _ => none
    | .box _ _ => none
    | .select _ _ => none
    | .call c =>
      match c.callee with
      | .builtin b => if allReal o ρ then realR (pureV P o ρ) else aMax b (c.args.toList.map ρ)
      | _ => none
    | .binOp op t x y _ =>
      match nilV P op t (ρ x) (ρ y) with
      | some v => some v
      | none => if allReal o ρ then realR (pureV P o ρ) else aBin P F op t (ρ x) (ρ y)
    | .unOp op _ x => if allReal o ρ then realR (pureV P o ρ) else aUn op (ρ x)
    | .convert s d x => if allReal o ρ then realR (pureV P o ρ) else aConv P s d (ρ x)
    | .field _ _ _ => pureV P o ρ
    | .index _ x ix => (match ρ x, ρ ix with
      | .agg _, .int _ _ => pureV P o ρ
      | _, _ => if allReal o ρ then realR (pureV P o ρ) else none)
    | .extract x _ => (match ρ x with
      | .tuple ⟨_ :: _ :: _⟩ => pureV P o ρ
      | _ => none)
    | .build t ps => if zeroOk P t && ps.toList.all (fun p => notMulti (ρ p.2)) then pureV P o ρ else none
    | _ => if allReal o ρ then realR (pureV P o ρ) else none
  else none
section
variable {P : Program} {τ : List Int}
theorem realR_is {r : Option Value} {v : Value} (h : realR r = some v) : r = some v ∧ real2 v = true := by
  unfold realR at h
  split at h
  · split at h
    · cases h
      exact ⟨rfl, by assumption⟩
    · cases h
  · cases h
theorem max_q (k : IntKind) : ∀ (r : List Value), (∀ v ∈ r, ∃ x, v = .int k x) → ∀ a : Int, ∃ z, qrun P (r.foldlM Builtin.max2 (.int k a)) = some (.int k z)
  | [], _, a => ⟨a, rfl⟩
  | v :: r, h, a => by
    obtain ⟨x, rfl⟩ := h v List.mem_cons_self
    obtain ⟨z, hz⟩ := max_q k r (fun v hv => h v (List.mem_cons_of_mem _ hv)) (if x > a then x else a)
    exact ⟨z, by rw [List.foldlM_cons, qrun_bind]; exact hz⟩
theorem min_q (k : IntKind) : ∀ (r : List Value), (∀ v ∈ r, ∃ x, v = .int k x) → ∀ a : Int, ∃ z, qrun P (r.foldlM Builtin.min2 (.int k a)) = some (.int k z)
  | [], _, a => ⟨a, rfl⟩
  | v :: r, h, a => by
    obtain ⟨x, rfl⟩ := h v List.mem_cons_self
    obtain ⟨z, hz⟩ := min_q k r (fun v hv => h v (List.mem_cons_of_mem _ hv)) (if x < a then x else a)
    exact ⟨z, by rw [List.foldlM_cons, qrun_bind]; exact hz⟩
theorem exec_builtin {o : Oper} {c : Call} {b : Builtin} (hop : o.op = .call c) (hc : c.callee = .builtin b) (ρ : Operand → Value) : execOp ρ o = builtin b c.argTypes o.type (c.args.map fun | .const _ => true | _ => false) (c.args.map ρ) := by
  simp only [execOp, hop, resolve, hc]
  rfl
theorem aMax_ok {o : Oper} {c : Call} {b : Builtin} (hop : o.op = .call c) (hc : c.callee = .builtin b) {at' vt : List Value} {r : Value} (h : aMax b (c.args.toList.map (VE at')) = some r) (hg : ∀ x ∈ o.op.operands, G2 τ (VE at' x) (VE vt x)) : ∃ v, pureV P o (VE vt) = some v ∧ G2 τ r v := by
  have hmem : ∀ x ∈ c.args.toList, x ∈ o.op.operands := fun x hx => by
    simp only [hop, Op.operands, Call.operands]
    exact Array.mem_append_right _ (by simpa using hx)
  have key : ∀ (k : IntKind) (x : Operand) (l : List Operand), c.args.toList = x :: l → kindA (VE at' x) = some k → (l.map (VE at')).all (fun y => kindA y == some k) = true → (∃ a, VE vt x = .int k a) ∧ ∀ v ∈ l.map (VE vt), ∃ a, v = .int k a := by
    intro k x l hl hk hall
    refine ⟨kindA_is hk (hg x (hmem x (by rw [hl]; exact List.mem_cons_self))), fun v hv => ?_⟩
    obtain ⟨y, hy, rfl⟩ := List.mem_map.1 hv
    have h2 := List.all_eq_true.1 hall (VE at' y) (List.mem_map.2 ⟨y, hy, rfl⟩)
    exact kindA_is (by simpa using h2) (hg y (hmem y (by rw [hl]; exact List.mem_cons_of_mem _ hy)))
  have hp : ∀ (k : IntKind) (x : Operand) (l : List Operand), c.args.toList = x :: l → (∃ a, VE vt x = .int k a) → (∀ v ∈ l.map (VE vt), ∃ a, v = .int k a) → ∀ z ∈ o.op.operands, isP (VE vt z) = false := by
    intro k x l hl h1 h2 z hz
    have hz : z ∈ c.args.toList := by
      simp only [hop, Op.operands, Call.operands, hc] at hz
      simpa using hz
    rw [hl] at hz
    rcases List.mem_cons.1 hz with rfl | hz
    · obtain ⟨a, e⟩ := h1
      rw [e]; rfl
    · obtain ⟨a, e⟩ := h2 _ (List.mem_map.2 ⟨z, hz, rfl⟩)
      rw [e]; rfl
  unfold aMax at h
  split at h
  · rename_i x r' hl
    obtain ⟨y, l, hcl, rfl, rfl⟩ := List.map_eq_cons_iff.1 hl
    split at h
    · rename_i k hk
      split at h
      · rename_i hall
        cases h
        obtain ⟨h1, h2⟩ := key k y l hcl hk hall
        have h0 := hp k y l hcl h1 h2
        obtain ⟨a, ea⟩ := h1
        obtain ⟨z, hz⟩ := max_q (P := P) k _ h2 a
        refine ⟨.int k z, pureV_of h0 ?_ rfl, .unk⟩
        rw [exec_builtin hop hc]
        show qrun P (Builtin.max_ _ _ _ >>= fun z => pure (Next.value z)) = _
        rw [one_qr]
        unfold Builtin.max_
        rw [Array.toList_map, hcl, List.map_cons, ea]
        exact hz
      · cases h
    · cases h
  · rename_i x r' hl
    obtain ⟨y, l, hcl, rfl, rfl⟩ := List.map_eq_cons_iff.1 hl
    split at h
    · rename_i k hk
      split at h
      · rename_i hall
        cases h
        obtain ⟨h1, h2⟩ := key k y l hcl hk hall
        have h0 := hp k y l hcl h1 h2
        obtain ⟨a, ea⟩ := h1
        obtain ⟨z, hz⟩ := min_q (P := P) k _ h2 a
        refine ⟨.int k z, pureV_of h0 ?_ rfl, .unk⟩
        rw [exec_builtin hop hc]
        show qrun P (Builtin.min_ _ _ _ >>= fun z => pure (Next.value z)) = _
        rw [one_qr]
        unfold Builtin.min_
        rw [Array.toList_map, hcl, List.map_cons, ea]
        exact hz
      · cases h
    · cases h
  · cases h
theorem aq_ok {F0 : Fct} (hF0 : FctOk τ F0) {cl : Nat → Bool} {id : Nat} {o : Oper} {at' vt : List Value} {am m : Xm} {r : Value} (h : aq P F0 cl id o (VE at') am = some r) (F : GF τ at' vt) (M : GM τ am m) : ∃ v, vq P cl id o (VE vt) m = some v ∧ G2 τ r v := by
  unfold aq at h
  split at h
  case isFalse => cases h
  rename_i hok
  have hev : ∀ x ∈ o.op.operands, G2 τ (VE at' x) (VE vt x) := fun x hx => F.ev (Array.all_eq_true_iff_forall_mem.1 hok x hx)
  have hokX : o.op.operands.all okX = true := Array.all_eq_true_iff_forall_mem.2 (fun x hx => okA_okX (Array.all_eq_true_iff_forall_mem.1 hok x hx))
  have hreal : (∀ cs b, o.op ≠ .select cs b) → allReal o (VE at') = true → realR (pureV P o (VE at')) = some r → pureV P o (VE vt) = some r ∧ G2 τ r r := fun hs ha hr => by
    obtain ⟨h1, h2⟩ := realR_is hr
    have agree : ∀ x ∈ o.op.operands, VE at' x = VE vt x := fun x hx => (real2_eq _ _ (Array.all_eq_true_iff_forall_mem.1 ha x hx) (hev x hx)).symm
    refine ⟨?_, real2_same h2⟩
    rw [← h1]
    unfold pureV
    have e : o.op.operands.all (fun x => !isP (VE vt x)) = o.op.operands.all (fun x => !isP (VE at' x)) := by
      rw [Bool.eq_iff_iff, Array.all_eq_true_iff_forall_mem, Array.all_eq_true_iff_forall_mem]
      exact ⟨fun h x hx => by rw [agree x hx]; exact h x hx, fun h x hx => by rw [← agree x hx]; exact h x hx⟩
    rw [e, execOp_congr o hs agree]
  unfold vq
  rw [if_pos hokX]
  cases hop : o.op <;> rw [hop] at h <;> dsimp only at h ⊢
  case move x => cases h; exact ⟨_, rfl, hev x (by simp [hop, Op.operands])⟩
  case assign x => cases h; exact ⟨_, rfl, hev x (by simp [hop, Op.operands])⟩
  case pick c a b => exact aPick_ok h (hev c (by simp [hop, Op.operands])) (hev a (by simp [hop, Op.operands])) (hev b (by simp [hop, Op.operands]))
  case load t x =>
    have h1 := hev x (by simp [hop, Op.operands])
    split at h
    · rename_i k off hx
      rw [hx] at h1
      rw [h1.ptr]
      dsimp only
      split at h
      · rename_i hc
        rw [if_pos hc]
        split at h
        · rename_i l hl
          obtain ⟨l', hl', gl⟩ := M.g k l hl
          rw [hl']
          dsimp only
          split at h
          · rename_i u hu
            obtain ⟨v, hv, gv⟩ := loadV_nat hu gl
            rw [hv]
            dsimp only
            split at h
            · cases h
            · rename_i hp
              cases h
              rw [if_neg (by rw [gv.isP]; exact hp)]
              exact ⟨v, rfl, gv⟩
          · cases h
        · cases h
      · cases h
    · cases h
  case fieldAddr s x f =>
    have h1 := hev x (by simp [hop, Op.operands])
    split at h
    · rename_i k off hx
      rw [hx] at h1
      rw [h1.ptr]
      dsimp only
      split at h
      · rename_i d hd
        cases h
        rw [hd]
        exact ⟨_, rfl, rfl, rfl⟩
      · cases h
    · cases h
  case indexAddr t x ix =>
    have h1 := hev x (by simp [hop, Op.operands])
    have h2 := hev ix (by simp [hop, Op.operands])
    split at h
    · rename_i k off hx
      rw [hx] at h1
      rw [h1.ptr]
      dsimp only
      split at h
      · rename_i d hd
        cases h
        have e : VE vt ix = VE at' ix := by
          unfold indexV at hd
          split at hd
          · rename_i e
            rw [e] at h2 ⊢
            exact h2.int
          · cases hd
        rw [e, hd]
        exact ⟨_, rfl, rfl, rfl⟩
      · cases h
    · cases h
  case nilCheck x =>
    have h1 := hev x (by simp [hop, Op.operands])
    split at h
    · rename_i b hx
      rw [hx] at h1
      rw [h1.ptr]
      cases h
      exact ⟨_, rfl, rfl, rfl⟩
    · cases h
  case alloc t => cases h; exact ⟨_, rfl, rfl, rfl⟩
  case store => cases h
  case box => cases h
  case select => cases h
  case call c =>
    split at h
    · rename_i b hc
      rw [hc]
      dsimp only
      split at h
      · rename_i ha
        obtain ⟨h1, h2⟩ := hreal (by rw [hop]; simp) ha h
        exact ⟨r, h1, h2⟩
      · exact aMax_ok hop hc h hev
    · cases h
  case binOp op t x y t2 =>
    have h1 := hev x (by simp [hop, Op.operands])
    have h2 := hev y (by simp [hop, Op.operands])
    split at h
    · rename_i u hn
      cases h
      have hn2 := hn
      unfold nilV at hn2
      split at hn2
      · rename_i b e1 e2
        rw [e1] at h1
        rw [e2] at h2
        rw [h1.ptr, h2.ptr, ← e1, ← e2, hn]
        refine ⟨r, rfl, ?_⟩
        split at hn2
        · cases hn2; exact ⟨rfl, rfl⟩
        · cases hn2; exact ⟨rfl, rfl⟩
        · cases hn2
      · cases hn2
    · rename_i hn
      split at h
      · rename_i ha
        obtain ⟨e1, e2⟩ := hreal (by rw [hop]; simp) ha h
        have ex : VE vt x = VE at' x := real2_eq _ _ (Array.all_eq_true_iff_forall_mem.1 ha x (by simp [hop, Op.operands])) h1
        have ey : VE vt y = VE at' y := real2_eq _ _ (Array.all_eq_true_iff_forall_mem.1 ha y (by simp [hop, Op.operands])) h2
        have q := pureW_of hop e1
        rw [ex, ey] at q
        rw [ex, ey, hn]
        exact ⟨r, q, e2⟩
      · obtain ⟨e1, v, hv, gv⟩ := aBin_ok hF0 hop h h1 h2
        rw [e1]
        exact ⟨v, pureW_of hop hv, gv⟩
  case unOp op t x =>
    split at h
    · rename_i ha
      obtain ⟨h1, h2⟩ := hreal (by rw [hop]; simp) ha h
      exact ⟨r, h1, h2⟩
    · exact aUn_ok hop h (hev x (by simp [hop, Op.operands]))
  case convert s d x =>
    split at h
    · rename_i ha
      obtain ⟨h1, h2⟩ := hreal (by rw [hop]; simp) ha h
      exact ⟨r, h1, h2⟩
    · exact aConv_ok hop h (hev x (by simp [hop, Op.operands]))
  case field t x f =>
    exact pure_nat (S := Instr.field t (VE at' x) f) (S' := Instr.field t (VE vt x) f) (by simp only [execOp, hop]) (by simp only [execOp, hop]) h hev (fun hq => field_nat hq (hev x (by simp [hop, Op.operands])))
  case index t x ix =>
    have h1 := hev x (by simp [hop, Op.operands])
    have h2 := hev ix (by simp [hop, Op.operands])
    split at h
    · rename_i cs k i e1 e2
      rw [e2] at h2
      have e3 := h2.int
      refine pure_nat (S := Instr.index t (VE at' x) (VE at' ix)) (S' := Instr.index t (VE vt x) (VE vt ix)) (by simp only [execOp, hop]) (by simp only [execOp, hop]) h hev (fun hq => ?_)
      rw [e2] at hq
      rw [e3]
      exact index_nat hq ⟨cs, e1⟩ h1
    · split at h
      · rename_i ha
        obtain ⟨h1, h2⟩ := hreal (by rw [hop]; simp) ha h
        exact ⟨r, h1, h2⟩
      · cases h
  case extract x i =>
    have h1 := hev x (by simp [hop, Op.operands])
    split at h
    · rename_i a b rs e1
      refine pure_nat (S := Instr.extract (VE at' x) i) (S' := Instr.extract (VE vt x) i) (by simp only [execOp, hop]) (by simp only [execOp, hop]) h hev (fun hq => ?_)
      rw [e1] at hq h1
      exact extract_nat hq h1
    · cases h
  case build t ps =>
    split at h
    · rename_i hc
      rw [Bool.and_eq_true] at hc
      refine pure_nat (S := Instr.build t (ps.map fun (i, x) => (i, VE at' x))) (S' := Instr.build t (ps.map fun (i, x) => (i, VE vt x))) (by simp only [execOp, hop]) (by simp only [execOp, hop]) h hev (fun hq => ?_)
      refine build_nat hc.1 hq ?_
      have hall := List.all_eq_true.1 hc.2
      have hmem : ∀ p ∈ ps.toList, G2 τ (VE at' p.2) (VE vt p.2) := fun p hp => hev p.2 (by
        simp only [hop, Op.operands]
        exact List.mem_toArray.2 (List.mem_map.2 ⟨p, hp, rfl⟩))
      rw [Array.toList_map, Array.toList_map]
      revert hall hmem
      generalize ps.toList = l
      induction l with
      | nil => intros; trivial
      | cons p l ih =>
        intro hall hmem
        exact ⟨⟨rfl, cells_nat (hmem p List.mem_cons_self) (hall p List.mem_cons_self)⟩, ih (fun q hq => hall q (List.mem_cons_of_mem _ hq)) (fun q hq => hmem q (List.mem_cons_of_mem _ hq))⟩
    · cases h
  all_goals
    split at h
    · rename_i ha
      obtain ⟨h1, h2⟩ := hreal (by rw [hop]; simp) ha h
      exact ⟨r, h1, h2⟩
    · cases h
end
/-! The same, as the kernel works it out faster. -/
def okF (o : Oper) : Bool := o.op.operands.toList.all okA
theorem okF_eq (o : Oper) : okF o = o.op.operands.all okA := Array.all_toList
def allF (o : Oper) (ρ : Operand → Value) : Bool := o.op.operands.toList.all fun x => real2 (ρ x)
theorem allF_eq (o : Oper) (ρ : Operand → Value) : allF o ρ = allReal o ρ := Array.all_toList
def pureF (P : Program) (o : Oper) (ρ : Operand → Value) : Option Value :=
  match o.op.operands.toList.all (fun x => !isP (ρ x)) with
  | true => (match qrun P (execOp ρ o) with
    | some (.value v) => (match isP v with
      | true => none
      | false => some v)
    | _ => none)
  | false => none
theorem pureF_eq (P : Program) (o : Oper) (ρ : Operand → Value) : pureF P o ρ = pureV P o ρ := by
  unfold pureF pureV
  rw [Array.all_toList]
  cases o.op.operands.all fun x => !isP (ρ x) with
  | false => rfl
  | true =>
    rw [if_pos rfl]
    dsimp only
    generalize qrun P (execOp ρ o) = q
    split
    · rename_i v
      cases h : isP v <;> simp [h]
    · rename_i hn
      split
      · exact absurd rfl (hn _)
      · rfl
def aqF (P : Program) (F : Fct) (cl : Nat → Bool) (id : Nat) (o : Oper) (ρ : Operand → Value) (m : Xm) : Option Value :=
  match okF o with
  | true => (match o.op with
    | .move x => some (ρ x)
    | .assign x => some (ρ x)
    | .pick c a b => aPick (ρ c) (ρ a) (ρ b)
    | .load t x =>
      match ρ x with
      | .pointer (some ⟨k, off, none⟩) => if cl k then (match m[k]? with
        | some l => (match loadV P t l off with
          | some v => if isP v then none else some v
          | none => none)
        | none => none) else none
      | _ => none
    | .fieldAddr s x f =>
      match ρ x with
      | .pointer (some ⟨k, off, none⟩) => (match fieldV P s f with
        | some d => some (.pointer (some ⟨k, off + d, none⟩))
        | none => none)
      | _ => none
    | .indexAddr t x ix =>
      match ρ x with
      | .pointer (some ⟨k, off, none⟩) => (match indexV P t (ρ ix) with
        | some d => some (.pointer (some ⟨k, off + d, none⟩))
        | none => none)
      | _ => none
    | .nilCheck x =>
      match ρ x with
      | .pointer (some a) => some (.pointer (some a))
      | _ => none
    | .alloc _ => some (.pointer (some ⟨id, 0, none⟩))
    | .store _ _ _ => none
    | .box _ _ => none
    | .select _ _ => none
    | .call c =>
      match c.callee with
      | .builtin b => if allF o ρ then realR (pureF P o ρ) else aMax b (c.args.toList.map ρ)
      | _ => none
    | .binOp op t x y _ =>
      match nilV P op t (ρ x) (ρ y) with
      | some v => some v
      | none => if allF o ρ then realR (pureF P o ρ) else aBin P F op t (ρ x) (ρ y)
    | .unOp op _ x => if allF o ρ then realR (pureF P o ρ) else aUn op (ρ x)
    | .convert s d x => if allF o ρ then realR (pureF P o ρ) else aConv P s d (ρ x)
    | .field _ _ _ => pureF P o ρ
    | .index _ x ix => (match ρ x, ρ ix with
      | .agg _, .int _ _ => pureF P o ρ
      | _, _ => if allF o ρ then realR (pureF P o ρ) else none)
    | .extract x _ => (match ρ x with
      | .tuple ⟨_ :: _ :: _⟩ => pureF P o ρ
      | _ => none)
    | .build t ps => if zeroOk P t && ps.toList.all (fun p => notMulti (ρ p.2)) then pureF P o ρ else none
    | _ => if allF o ρ then realR (pureF P o ρ) else none)
  | false => none
theorem aqF_eq (P : Program) (F : Fct) (cl : Nat → Bool) (id : Nat) (o : Oper) (ρ : Operand → Value) (m : Xm) : aqF P F cl id o ρ m = aq P F cl id o ρ m := by
  unfold aqF aq
  rw [okF_eq]
  cases o.op.operands.all okA with
  | false => rfl
  | true =>
    rw [if_pos rfl]
    dsimp only
    cases o.op <;> simp only [pureF_eq, allF_eq]
end Go.Proofs.YtoadcnhcfodkgaaGreatDoor.Nx
