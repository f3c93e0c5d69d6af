/-
A part.
A part.
A part.
-/
import Derived.Test.YtbophanlmkbfeaaGreatDoorHC05
namespace Go.Proofs.YtbophanlmkbfeaaGreatDoor
open Go.RowKit
theorem qrun_bind {P : Program} {α β : Type} (s : Sem α) (f : α → Sem β) : qrun P (s >>= f) = (qrun P s).bind fun a => qrun P (f a) := by
 show qrun P (Sem.bind s f) = _
 induction s with
 | pure a => rfl
 | program k ih => exact ih P
 | mark m k ih => exact ih
 | _ => rfl
section
variable {P : Program} {τ : Nat → Int}
theorem pureV_of {o : Oper} {ρ : Operand → Value} {v : Value} (hp : ∀ x ∈ o.op.operands, isP (ρ x) = false) (hq : qrun P (execOp ρ o) = some (.value v)) (hv : isP v = false) : pureV P o ρ = some v := by
 unfold pureV
 rw [if_pos (Array.all_eq_true_iff_forall_mem.2 (fun x hx => by rw [hp x hx]; rfl)), hq]
 simp [hv]
theorem pureV_is {o : Oper} {ρ : Operand → Value} {v : Value} (h : pureV P o ρ = some v) : (∀ x ∈ o.op.operands, isP (ρ x) = false) ∧ qrun P (execOp ρ o) = some (.value v) ∧ isP v = false := by
 unfold pureV at h
 split at h
 ·rename_i hp
  split at h
  ·rename_i u hq
   split at h
   ·cases h
   ·rename_i hu
    cases h
    exact ⟨fun x hx => by simpa using Array.all_eq_true_iff_forall_mem.1 hp x hx, hq, by simpa using hu⟩
  ·cases h
 ·cases h
def intOp : BinOp → Bool
 | .add => true
 | .sub => true
 | .mul => true
 | .and => true
 | .or => true
 | .xor => true
 | .andNot => true
 | _ => false
def cmpOp : BinOp → Bool
 | .eql => true
 | .neq => true
 | .lss => true
 | .leq => true
 | .gtr => true
 | .geq => true
 | _ => false
def isBoolT (P : Program) (t : TypeId) : Bool :=
 match P.underlying t with
 | some .bool => true
 | _ => false
def aBin (P : Program) (op : BinOp) (t : TypeId) (x y : Value) : Option Value :=
 match kindA x, kindA y with
 | some k, some k' =>
  if intOp op then (if k = k' then some (unk k) else none)
  else if cmpOp op then (if k = k' then some unkB else none)
  else match y with
   | .int _ n => (match op with
    | .shl => if 0 ≤ n then some (unk k) else none
    | .shr => if 0 ≤ n then some (unk k) else none
    | .quo => if k = k' ∧ n ≠ 0 then some (unk k) else none
    | .rem => if k = k' ∧ n ≠ 0 then some (unk k) else none
    | _ => none)
   | _ => none
 | _, _ => if boolA x && boolA y && isBoolT P t then (match op with
     | .eql => some unkB
     | .neq => some unkB
     | _ => none) else none
theorem guard_ints (op : BinOp) (t : TypeId) (x y : Operand) (k k' : IntKind) (a b : Int) : qrun P (eqGuard op t x y (.int k a) (.int k' b)) = some () := by
 cases op <;> rfl
theorem guard_bools (op : BinOp) (t : TypeId) (x y : Operand) (a b : Bool) : qrun P (eqGuard op t x y (.bool a) (.bool b)) = some () := by
 cases op <;> rfl
theorem bin_arith (op : BinOp) (h : intOp op = true) (t : TypeId) (k : IntKind) (a b : Int) : ∃ z, qrun P (binOp op t (.int k a) (.int k b)) = some (.int k z) := by
 cases op <;> first | (cases k <;> exact ⟨_, rfl⟩) | (cases h; done)
theorem bin_cmp (op : BinOp) (h : cmpOp op = true) (t : TypeId) (k : IntKind) (a b : Int) : ∃ z, qrun P (binOp op t (.int k a) (.int k b)) = some (.bool z) := by
 cases op <;> first | (cases k <;> exact ⟨_, rfl⟩) | (cases h; done)
theorem bin_shift (op : BinOp) (h : op = .shl ∨ op = .shr) (t : TypeId) (k k' : IntKind) (a b : Int) (hb : 0 ≤ b) : ∃ z, qrun P (binOp op t (.int k a) (.int k' b)) = some (.int k z) := by
 rcases h with rfl | rfl
 ·show ∃ z, qrun P (Op.shift .shl k a k' b) = some (.int k z)
  unfold Op.shift
  rw [if_neg (by omega)]
  exact ⟨_, rfl⟩
 ·show ∃ z, qrun P (Op.shift .shr k a k' b) = some (.int k z)
  unfold Op.shift
  rw [if_neg (by omega)]
  exact ⟨_, rfl⟩
theorem bin_div (op : BinOp) (h : op = .quo ∨ op = .rem) (t : TypeId) (k : IntKind) (a b : Int) (hb : b ≠ 0) : ∃ z, qrun P (binOp op t (.int k a) (.int k b)) = some (.int k z) := by
 have e : binOp op t (.int k a) (.int k b) = Op.intDiv op k a b := by rcases h with rfl | rfl <;> cases k <;> rfl
 rw [e]
 unfold Op.intDiv
 rw [if_neg hb]
 rcases h with rfl | rfl
 ·exact ⟨_, rfl⟩
 ·exact ⟨_, rfl⟩
theorem under_q {t : TypeId} {d : TypeDesc} (h : P.underlying t = some d) : qrun P (underlying t) = some d := by
 unfold underlying
 rw [qrun_bind]
 show qrun P (match P.underlying t with
  | some d => pure d
  | none => _) = _
 rw [h]
 rfl
theorem bin_bool (op : BinOp) (h : op = .eql ∨ op = .neq) (t : TypeId) (ht : P.underlying t = some .bool) (a b : Bool) : ∃ z, qrun P (binOp op t (.bool a) (.bool b)) = some (.bool z) := by
 have e : qrun P (Op.equal t (.bool a) (.bool b)) = some (a == b) := by
  show qrun P (Op.equalIn (9999 + 1) t (.bool a) (.bool b)) = some (a == b)
  rw [Op.equalIn, qrun_bind]
  have hu : qrun P (underlying t) = some .bool := under_q ht
  rw [hu]
  rfl
 rcases h with rfl | rfl
 ·refine ⟨a == b, ?_⟩
  show qrun P (Op.equal t (.bool a) (.bool b) >>= fun z => pure (Value.bool z)) = _
  rw [qrun_bind, e]
  rfl
 ·refine ⟨!(a == b), ?_⟩
  show qrun P (Op.equal t (.bool a) (.bool b) >>= fun z => pure (Value.bool !z)) = _
  rw [qrun_bind, e]
  rfl
theorem exec_bin {o : Oper} {op : BinOp} {t t' : TypeId} {x y : Operand} (hop : o.op = .binOp op t x y t') {ρ : Operand → Value} {v : Value} (hg : qrun P (eqGuard op t x y (ρ x) (ρ y)) = some ()) (hb : qrun P (binOp op t (ρ x) (ρ y)) = some v) : qrun P (execOp ρ o) = some (.value v) := by
 have e : execOp ρ o = (do let z ← (do eqGuard op t x y (ρ x) (ρ y); binOp op t (ρ x) (ρ y)); pure (.value z)) := by simp only [execOp, hop]
 rw [e, qrun_bind, qrun_bind, hg]
 show (Option.bind (qrun P (binOp op t (ρ x) (ρ y))) _) = _
 rw [hb]
 rfl
theorem aBin_ok {o : Oper} {op : BinOp} {t t' : TypeId} {x y : Operand} (hop : o.op = .binOp op t x y t') {at' vt : List Value} {r : Value} (h : aBin P op t (VE at' x) (VE at' y) = some r) (gx : G2 τ (VE at' x) (VE vt x)) (gy : G2 τ (VE at' y) (VE vt y)) :
    nilV P op t (VE vt x) (VE vt y) = none ∧ ∃ v, pureV P o (VE vt) = some v ∧ G2 τ r v := by
 have ops : ∀ z ∈ o.op.operands, z = x ∨ z = y := fun z hz => by simpa [hop, Op.operands] using hz
 unfold aBin at h
 split at h
 ·rename_i k k' hk hk'
  obtain ⟨a, ea⟩ := kindA_is hk gx
  obtain ⟨b, eb⟩ := kindA_is hk' gy
  have hn : nilV P op t (VE vt x) (VE vt y) = none := by rw [ea]; rfl
  have hp : ∀ z ∈ o.op.operands, isP (VE vt z) = false := fun z hz => by
   rcases ops z hz with rfl | rfl
   ·rw [ea]; rfl
   ·rw [eb]; rfl
  have fin : ∀ v, qrun P (binOp op t (.int k a) (.int k' b)) = some v → isP v = false → G2 τ r v → nilV P op t (VE vt x) (VE vt y) = none ∧ ∃ v, pureV P o (VE vt) = some v ∧ G2 τ r v := fun v hv h1 h2 =>
   ⟨hn, v, pureV_of hp (exec_bin hop (by rw [ea, eb]; exact guard_ints ..) (by rw [ea, eb]; exact hv)) h1, h2⟩
  split at h
  ·rename_i hi
   split at h
   ·rename_i hkk
    subst hkk
    cases h
    obtain ⟨z, hz⟩ := bin_arith (P := P) op hi t k a b
    exact fin _ hz rfl .unk
   ·cases h
  ·split at h
   ·rename_i hi
    split at h
    ·rename_i hkk
     subst hkk
     cases h
     obtain ⟨z, hz⟩ := bin_cmp (P := P) op hi t k a b
     exact fin _ hz rfl .unkB
    ·cases h
   ·split at h
    ·rename_i n hy
     have e2 := gy
     rw [hy] at e2
     have e2 := e2.int
     rw [eb] at e2
     cases e2
     split at h
     ·split at h
      ·rename_i hn0
       cases h
       obtain ⟨z, hz⟩ := bin_shift (P := P) .shl (.inl rfl) t k k' a b hn0
       exact fin _ hz rfl .unk
      ·cases h
     ·split at h
      ·rename_i hn0
       cases h
       obtain ⟨z, hz⟩ := bin_shift (P := P) .shr (.inr rfl) t k k' a b hn0
       exact fin _ hz rfl .unk
      ·cases h
     ·split at h
      ·rename_i hn0
       obtain ⟨rfl, hn0⟩ := hn0
       cases h
       obtain ⟨z, hz⟩ := bin_div (P := P) .quo (.inl rfl) t k a b hn0
       exact fin _ hz rfl .unk
      ·cases h
     ·split at h
      ·rename_i hn0
       obtain ⟨rfl, hn0⟩ := hn0
       cases h
       obtain ⟨z, hz⟩ := bin_div (P := P) .rem (.inr rfl) t k a b hn0
       exact fin _ hz rfl .unk
      ·cases h
     ·cases h
    ·cases h
 ·split at h
  ·rename_i hb
   simp only [Bool.and_eq_true] at hb
   obtain ⟨a, ea⟩ := boolA_is hb.1.1 gx
   obtain ⟨b, eb⟩ := boolA_is hb.1.2 gy
   have ht : P.underlying t = some .bool := by
    have := hb.2
    unfold isBoolT at this
    split at this
    ·assumption
    ·cases this
   have hn : nilV P op t (VE vt x) (VE vt y) = none := by rw [ea]; rfl
   have hp : ∀ z ∈ o.op.operands, isP (VE vt z) = false := fun z hz => by
    rcases ops z hz with rfl | rfl
    ·rw [ea]; rfl
    ·rw [eb]; rfl
   split at h
   ·cases h
    obtain ⟨z, hz⟩ := bin_bool (P := P) .eql (.inl rfl) t ht a b
    exact ⟨hn, _, pureV_of hp (exec_bin hop (by rw [ea, eb]; exact guard_bools ..) (by rw [ea, eb]; exact hz)) rfl, .unkB⟩
   ·cases h
    obtain ⟨z, hz⟩ := bin_bool (P := P) .neq (.inr rfl) t ht a b
    exact ⟨hn, _, pureV_of hp (exec_bin hop (by rw [ea, eb]; exact guard_bools ..) (by rw [ea, eb]; exact hz)) rfl, .unkB⟩
   ·cases h
  ·cases h
def aUn (op : UnOp) (x : Value) : Option Value :=
 match op with
 | .neg => (kindA x).map unk
 | .xor => (kindA x).map unk
 | .not => if boolA x then some unkB else none
 | .plus => none
theorem aUn_ok {o : Oper} {op : UnOp} {t : TypeId} {x : Operand} (hop : o.op = .unOp op t x) {at' vt : List Value} {r : Value} (h : aUn op (VE at' x) = some r) (gx : G2 τ (VE at' x) (VE vt x)) : ∃ v, pureV P o (VE vt) = some v ∧ G2 τ r v := by
 have ops : ∀ z ∈ o.op.operands, z = x := fun z hz => by simpa [hop, Op.operands] using hz
 have fin : ∀ u v, VE vt x = u → isP u = false → qrun P (Op.unary op u) = some v → isP v = false → G2 τ r v → ∃ v, pureV P o (VE vt) = some v ∧ G2 τ r v := fun u v hu h0 hv h1 h2 =>
  ⟨v, pureV_of (fun z hz => by rw [ops z hz, hu]; exact h0) (by
   have e : execOp (VE vt) o = (do let z ← Op.unary op (VE vt x); pure (.value z)) := by simp only [execOp, hop]
   rw [e, qrun_bind, hu, hv]
   rfl) h1, h2⟩
 unfold aUn at h
 split at h
 ·obtain ⟨k, hk, rfl⟩ := Option.map_eq_some_iff.1 h
  obtain ⟨a, ea⟩ := kindA_is hk gx
  exact fin _ _ ea rfl rfl rfl .unk
 ·obtain ⟨k, hk, rfl⟩ := Option.map_eq_some_iff.1 h
  obtain ⟨a, ea⟩ := kindA_is hk gx
  exact fin _ _ ea rfl rfl rfl .unk
 ·split at h
  ·rename_i hb
   cases h
   obtain ⟨a, ea⟩ := boolA_is hb gx
   exact fin _ _ ea rfl rfl rfl .unkB
  ·cases h
 ·cases h
def intT (P : Program) (t : TypeId) : Option IntKind :=
 match P.underlying t with
 | some (.int k) => some k
 | _ => none
def aConv (P : Program) (s d : TypeId) (x : Value) : Option Value :=
 match kindA x, intT P s, intT P d with
 | some _, some _, some k => some (unk k)
 | _, _, _ => none
theorem intT_q {t : TypeId} {k : IntKind} (h : intT P t = some k) : qrun P (underlying t) = some (.int k) := by
 unfold intT at h
 split at h
 ·rename_i k' hu
  cases h
  exact under_q hu
 ·cases h
theorem aConv_ok {o : Oper} {s d : TypeId} {x : Operand} (hop : o.op = .convert s d x) {at' vt : List Value} {r : Value} (h : aConv P s d (VE at' x) = some r) (gx : G2 τ (VE at' x) (VE vt x)) : ∃ v, pureV P o (VE vt) = some v ∧ G2 τ r v := by
 have ops : ∀ z ∈ o.op.operands, z = x := fun z hz => by simpa [hop, Op.operands] using hz
 unfold aConv at h
 split at h
 ·rename_i k1 k2 k hk hs hd
  cases h
  obtain ⟨a, ea⟩ := kindA_is hk gx
  refine ⟨.int k (k.wrap a), pureV_of (fun z hz => by rw [ops z hz, ea]; rfl) ?_ rfl, .unk⟩
  have e : execOp (VE vt) o = (do let z ← convert s d (VE vt x); pure (.value z)) := by simp only [execOp, hop]
  have e2 : qrun P (convert s d (.int k1 a)) = some (.int k (k.wrap a)) := by
   unfold convert
   rw [qrun_bind, intT_q hs]
   show qrun P (underlying d >>= _) = _
   rw [qrun_bind, intT_q hd]
   rfl
  rw [e, qrun_bind, ea, e2]
  rfl
 ·cases h
theorem part_q (t : TypeId) (cs : Array Value) (off : Nat) : qrun P (part t cs off) = (qrun P (isAgg t)).bind fun b => if b then (qrun P (sizeOf t)).map fun n => .agg (cs.extract off (off + n)) else cs[off]? := by
 unfold part
 rw [qrun_bind]
 congr 1
 funext b
 cases b with
 | true =>
  simp only [if_true, qrun_bind]
  cases qrun P (sizeOf t) <;> rfl
 | false =>
  simp only [Bool.false_eq_true, if_false]
  cases h : cs[off]? <;> rfl
theorem part_nat {t : TypeId} {cs : Array Value} {off : Nat} {r : Value} (h : qrun P (part t cs off) = some r) {l : List Value} (g : All2 (G0 τ) cs.toList l) : ∃ v, qrun P (part t ⟨l⟩ off) = some v ∧ G1 τ r v := by
 rw [part_q] at h
 simp only [part_q]
 cases h1 : qrun P (isAgg t) with
 | none => rw [h1] at h; cases h
 | some b =>
  rw [h1] at h
  cases b with
  | true =>
   simp only [Option.bind_some, if_true] at h ⊢
   cases h2 : qrun P (sizeOf t) with
   | none => rw [h2] at h; cases h
   | some n =>
    rw [h2] at h
    cases h
    refine ⟨_, rfl, ⟨(Array.extract ⟨l⟩ off (off + n)).toList, rfl, ?_⟩⟩
    have := (g.drop off).take n
    simpa [List.extract_eq_take_drop] using this
  | false =>
   simp only [Option.bind_some, Bool.false_eq_true, if_false] at h ⊢
   obtain ⟨v, hv, gv⟩ := g.get off r (by simpa using h)
   exact ⟨v, by simpa using hv, gv.g1⟩
end
end Go.Proofs.YtbophanlmkbfeaaGreatDoor
namespace Go.Proofs.YtbophanlmkbfeaaGreatDoor
open Go.RowKit
section
variable {P : Program} {τ : Nat → Int}
theorem one_qr {S : Sem Value} {v : Value} : qrun P (S >>= fun z => pure (Next.value z)) = some (Next.value v) ↔ qrun P S = some v := by
 rw [qrun_bind]
 cases h : qrun P S with
 | none => simp
 | some u =>
  show some (Next.value u) = some (Next.value v) ↔ some u = some v
  constructor
  ·intro e
   cases e
   rfl
  ·intro e
   cases e
   rfl
theorem pure_nat {o : Oper} {at' vt : List Value} {S S' : Sem Value} {r : Value} (hS : execOp (VE at') o = S >>= fun z => pure (Next.value z)) (hS' : execOp (VE vt) o = S' >>= fun z => pure (Next.value z))
    (h : pureV P o (VE at') = some r) (hg : ∀ x ∈ o.op.operands, G2 τ (VE at' x) (VE vt x)) (hn : qrun P S = some r → ∃ v, qrun P S' = some v ∧ G2 τ r v) : ∃ v, pureV P o (VE vt) = some v ∧ G2 τ r v := by
 obtain ⟨hp, hq, hr⟩ := pureV_is h
 rw [hS, one_qr] at hq
 obtain ⟨v, hv, g⟩ := hn hq
 exact ⟨v, pureV_of (fun x hx => by rw [(hg x hx).isP]; exact hp x hx) (by rw [hS', one_qr]; exact hv) (by rw [g.isP]; exact hr), g⟩
theorem asAgg_q {x : Value} {cs : Array Value} (h : qrun P (asAgg x) = some cs) : x = .agg cs := by
 unfold asAgg at h
 split at h
 ·cases h; rfl
 ·cases h
theorem field_nat {t : TypeId} {x v r : Value} {f : Nat} (h : qrun P (Instr.field t x f) = some r) (g : G2 τ x v) : ∃ u, qrun P (Instr.field t v f) = some u ∧ G2 τ r u := by
 unfold Instr.field at h ⊢
 rw [qrun_bind] at h ⊢
 cases hu : qrun P (underlying t) with
 | none => rw [hu] at h; cases h
 | some d =>
  rw [hu] at h
  simp only [Option.bind_some] at h ⊢
  split at h
  ·split at h
   ·rw [qrun_bind] at h ⊢
    cases hx : qrun P (asAgg x) with
    | none => rw [hx] at h; cases h
    | some cs =>
     rw [hx] at h
     obtain rfl := asAgg_q hx
     obtain ⟨l, rfl, gl⟩ := g.agg
     obtain ⟨u, hu, gu⟩ := part_nat h gl
     exact ⟨u, hu, gu.g2⟩
   ·cases h
  ·cases h
theorem bounds_q {α : Type} (k : IntKind) (i : Int) (n : Nat) (c : BoundsCode) : qrun P (boundsPanic (α := α) k i n c) = none := by
 unfold boundsPanic
 dsimp only
 split <;> rfl
theorem index_nat {t : TypeId} {x v r : Value} {k : IntKind} {i : Int} (h : qrun P (Instr.index t x (.int k i)) = some r) (hx : ∃ cs, x = .agg cs) (g : G2 τ x v) : ∃ u, qrun P (Instr.index t v (.int k i)) = some u ∧ G2 τ r u := by
 obtain ⟨cs, rfl⟩ := hx
 obtain ⟨l, rfl, gl⟩ := g.agg
 unfold Instr.index at h ⊢
 rw [qrun_bind] at h ⊢
 change (Option.bind (some (k, i)) _) = _ at h
 change ∃ u, (Option.bind (some (k, i)) _) = _ ∧ _
 simp only [Option.bind_some] at h ⊢
 rw [qrun_bind] at h ⊢
 cases hu : qrun P (underlying t) with
 | none => rw [hu] at h; cases h
 | some d =>
  rw [hu] at h
  simp only [Option.bind_some] at h ⊢
  split at h
  ·rename_i vv len elem cs' e2
   cases e2
   split at h
   ·rename_i hi
    rw [if_pos hi]
    rw [qrun_bind] at h ⊢
    cases hs : qrun P (sizeOf elem) with
    | none => rw [hs] at h; cases h
    | some n =>
     rw [hs] at h
     obtain ⟨u, hu, gu⟩ := part_nat h gl
     exact ⟨u, hu, gu.g2⟩
   ·rw [bounds_q] at h
    cases h
  ·rename_i e
   cases e
  ·cases h
theorem extract_nat {a b : Value} {rs : List Value} {v r : Value} {i : Nat} (h : qrun P (Instr.extract (.tuple ⟨a :: b :: rs⟩) i) = some r) (g : G2 τ (.tuple ⟨a :: b :: rs⟩) v) : ∃ u, qrun P (Instr.extract v i) = some u ∧ G2 τ r u := by
 obtain ⟨l, rfl, gl⟩ := g
 unfold Instr.extract at h ⊢
 dsimp only at h ⊢
 split at h
 ·rename_i w hw
  cases h
  obtain ⟨u, hu, gu⟩ := gl.get i r (by simpa using hw)
  refine ⟨u, ?_, gu.g2⟩
  have : (⟨l⟩ : Array Value)[i]? = some u := by simpa using hu
  rw [this]
  rfl
 ·cases h
def notMulti : Value → Bool
 | .tuple ⟨_ :: _ :: _⟩ => false
 | _ => true
theorem cells_nat {t v : Value} (g : G2 τ t v) (hm : notMulti t = true) : All2 (G0 τ) t.cells.toList v.cells.toList := by
 unfold G2 at g
 split at g
 ·cases hm
 ·unfold G1 at g
  split at g
  ·obtain ⟨l, rfl, gl⟩ := g
   exact gl
  ·rename_i hn
   have h1 : t.cells = #[t] := by
    unfold Value.cells
    split
    ·exact absurd rfl (hn _)
    ·rfl
   have h2 : v.cells = #[v] := by
    unfold G0 at g
    split at g
    ·obtain ⟨x, rfl⟩ := g; rfl
    ·obtain ⟨x, rfl, _⟩ := g; rfl
    ·obtain ⟨x, rfl⟩ := g; rfl
    ·rw [g]; rfl
    ·rw [g.1]; exact h1
   rw [h1, h2]
   exact ⟨g, trivial⟩
theorem fold_nat (off : Nat) : ∀ (l l' : List Value), All2 (G0 τ) l l' → ∀ (n : Nat) (cs cs' : Array Value), All2 (G0 τ) cs.toList cs'.toList →
    All2 (G0 τ) ((l.zipIdx n).foldl (fun cs (x : Value × Nat) => cs.setIfInBounds (off + x.2) x.1) cs).toList ((l'.zipIdx n).foldl (fun cs (x : Value × Nat) => cs.setIfInBounds (off + x.2) x.1) cs').toList
 | [], [], _, _, _, _, h => h
 | a :: l, b :: l', g, n, cs, cs', h => by
  simp only [List.zipIdx_cons, List.foldl_cons]
  exact fold_nat off l l' g.2 (n + 1) _ _ (by simpa using h.set (off + n) a b g.1)
 | [], _ :: _, g, _, _, _, _ => g.elim
 | _ :: _, [], g, _, _, _, _ => g.elim
theorem fill_nat (place : Nat → Option (Nat × Nat)) : ∀ (ps ps' : List (Nat × Value)), All2 (fun p q : Nat × Value => p.1 = q.1 ∧ All2 (G0 τ) p.2.cells.toList q.2.cells.toList) ps ps' → ∀ (cs cs' : Array Value) (r : Array Value), All2 (G0 τ) cs.toList cs'.toList →
    Instr.fill place cs ps = some r → ∃ r', Instr.fill place cs' ps' = some r' ∧ All2 (G0 τ) r.toList r'.toList
 | [], [], _, cs, cs', r, g, h => by
  simp only [Instr.fill, Option.some.injEq] at h
  subst h
  exact ⟨cs', rfl, g⟩
 | (i, v) :: ps, (j, u) :: ps', gp, cs, cs', r, g, h => by
  obtain ⟨⟨rfl, gv⟩, gp⟩ := gp
  have hl := gv.len
  have hc := g.len
  simp only [Array.length_toList] at hl hc
  unfold Instr.fill at h ⊢
  dsimp only at h ⊢
  split at h
  ·cases h
  ·rename_i off size hp
   split at h
   ·cases h
   ·rename_i hcond
    rw [← hl, ← hc, if_neg hcond]
    refine fill_nat place ps ps' gp _ _ r ?_ h
    have := fold_nat off _ _ gv 0 cs cs' g
    rw [← Array.foldl_toList, ← Array.foldl_toList, Array.toList_zipIdx, Array.toList_zipIdx]
    exact this
 | [], _ :: _, g, _, _, _, _, _ => g.elim
 | _ :: _, [], g, _, _, _, _, _ => g.elim
def zeroOk (P : Program) (t : TypeId) : Bool :=
 match qrun P (zeroValue t) with
 | some z => z.cells.toList.all real0
 | none => false
theorem build_nat {t : TypeId} {ps ps' : Array (Nat × Value)} {r : Value} (hz : zeroOk P t = true) (h : qrun P (Instr.build t ps) = some r) (g : All2 (fun p q : Nat × Value => p.1 = q.1 ∧ All2 (G0 τ) p.2.cells.toList q.2.cells.toList) ps.toList ps'.toList) :
    ∃ u, qrun P (Instr.build t ps') = some u ∧ G2 τ r u := by
 unfold zeroOk at hz
 unfold Instr.build at h ⊢
 rw [qrun_bind] at h ⊢
 cases h0 : qrun P (zeroValue t) with
 | none => rw [h0] at h; cases h
 | some z =>
  rw [h0] at h hz
  dsimp only at hz
  have gz : All2 (G0 τ) z.cells.toList z.cells.toList := All2.refl _ (fun a ha => real0_same (List.all_eq_true.1 hz a ha))
  simp only [Option.bind_some] at h ⊢
  rw [qrun_bind] at h ⊢
  cases hu : qrun P (underlying t) with
  | none => rw [hu] at h; cases h
  | some d =>
   rw [hu] at h
   simp only [Option.bind_some] at h ⊢
   split at h
   ·rw [qrun_bind] at h ⊢
    generalize qrun P _ = pl at h ⊢
    cases pl with
    | none => cases h
    | some places =>
     simp only [Option.bind_some] at h ⊢
     split at h
     ·rename_i cells hf
      cases h
      obtain ⟨r', hr', gr⟩ := fill_nat (τ := τ) _ _ _ g _ _ _ gz hf
      rw [hr']
      exact ⟨.agg r', rfl, ⟨r'.toList, rfl, gr⟩⟩
     ·cases h
   ·rw [qrun_bind] at h ⊢
    generalize qrun P _ = pl at h ⊢
    cases pl with
    | none => cases h
    | some size =>
     simp only [Option.bind_some] at h ⊢
     split at h
     ·rename_i cells hf
      cases h
      obtain ⟨r', hr', gr⟩ := fill_nat (τ := τ) _ _ _ g _ _ _ gz hf
      rw [hr']
      exact ⟨.agg r', rfl, ⟨r'.toList, rfl, gr⟩⟩
     ·cases h
   ·cases h
theorem loadV_nat {t : TypeId} {l l' : List Value} {off : Nat} {r : Value} (h : loadV P t l off = some r) (g : All2 (G0 τ) l l') : ∃ v, loadV P t l' off = some v ∧ G2 τ r v := by
 unfold loadV at h ⊢
 split at h
 ·split at h
  ·rename_i n hn
   split at h
   ·rename_i hl
    cases h
    have := g.len
    rw [if_pos (by omega)]
    refine ⟨_, rfl, ⟨_, rfl, ?_⟩⟩
    have := (g.drop off).take n
    simpa using this
   ·cases h
  ·cases h
 ·obtain ⟨v, hv, gv⟩ := g.get off r h
  exact ⟨v, hv, gv.g2⟩
 ·cases h
def aPick (c a b : Value) : Option Value :=
 match c with
 | .bool x => (match x with
  | true => some a
  | false => some b)
 | c => if boolA c then (if boolA a && boolA b then some unkB else match kindA a, kindA b with
     | some k, some k' => if k = k' then some (unk k) else none
     | _, _ => none) else none
theorem pick_t (a b : Value) : pickV (.bool true) a b = some a := by cases a <;> cases b <;> rfl
theorem pick_f (a b : Value) : pickV (.bool false) a b = some b := by cases a <;> cases b <;> rfl
theorem aPick_ok {c a b vc va vb r : Value} (h : aPick c a b = some r) (gc : G2 τ c vc) (ga : G2 τ a va) (gb : G2 τ b vb) : ∃ v, pickV vc va vb = some v ∧ G2 τ r v := by
 unfold aPick at h
 split at h
 ·rename_i x
  obtain rfl := gc.bool
  cases x with
  | true => cases h; exact ⟨va, pick_t va vb, ga⟩
  | false => cases h; exact ⟨vb, pick_f va vb, gb⟩
 ·split at h
  ·rename_i hb
   obtain ⟨x, rfl⟩ := boolA_is hb gc
   split at h
   ·rename_i hab
    rw [Bool.and_eq_true] at hab
    obtain ⟨p, rfl⟩ := boolA_is hab.1 ga
    obtain ⟨q, rfl⟩ := boolA_is hab.2 gb
    cases h
    exact ⟨_, rfl, .unkB⟩
   ·split at h
    ·rename_i k k' hk hk'
     obtain ⟨p, rfl⟩ := kindA_is hk ga
     obtain ⟨q, rfl⟩ := kindA_is hk' gb
     split at h
     ·rename_i e
      subst e
      cases h
      cases x
      ·exact ⟨_, rfl, .unk⟩
      ·exact ⟨_, rfl, .unk⟩
     ·cases h
    ·cases h
  ·cases h
end
end Go.Proofs.YtbophanlmkbfeaaGreatDoor
namespace Go.Proofs.YtbophanlmkbfeaaGreatDoor
open Go.RowKit
def realR (r : Option Value) : Option Value :=
 match r with
 | some v => if real2 v then some v else none
 | none => none
def allReal (o : Oper) (ρ : Operand → Value) : Bool := o.op.operands.all fun x => real2 (ρ x)
def aMax (b : Builtin) (l : List Value) : Option Value :=
 match b, l with
 | .max, x :: r => (match kindA x with
  | some k => if r.all (fun y => kindA y == some k) then some (unk k) else none
  | none => none)
 | .min, x :: r => (match kindA x with
  | some k => if r.all (fun y => kindA y == some k) then some (unk k) else none
  | none => none)
 | _, _ => none
def aq (P : Program) (cl : Nat → Bool) (id : Nat) (o : Oper) (ρ : Operand → Value) (m : Xm) : Option Value :=
 if o.op.operands.all okA then
  match o.op with
  | .move x => some (ρ x)
  | .assign x => some (ρ x)
  | .pick c a b => aPick (ρ c) (ρ a) (ρ b)
  | .load t x =>
   match ρ x with
   | .pointer (some ⟨k, off, none⟩) => if cl k then (match m[k]? with
    | some l => (match loadV P t l off with
     | some v => if isP v then none else some v
     | none => none)
    | none => none) else none
   | _ => none
  | .fieldAddr s x f =>
   match ρ x with
   | .pointer (some ⟨k, off, none⟩) => (match fieldV P s f with
    | some d => some (.pointer (some ⟨k, off + d, none⟩))
    | none => none)
   | _ => none
  | .indexAddr t x ix =>
   match ρ x with
   | .pointer (some ⟨k, off, none⟩) => (match indexV P t (ρ ix) with
    | some d => some (.pointer (some ⟨k, off + d, none⟩))
    | none => none)
   | _ => none
  | .nilCheck x =>
   match ρ x with
   | .pointer (some a) => some (.pointer (some a))
   | _ => none
  | .alloc _ => some (.pointer (some ⟨id, 0, none⟩))
  | .store _ _ _ => none
  | .box _ _ => none
  | .select _ _ => none
  | .call c =>
   match c.callee with
   | .builtin b => if allReal o ρ then realR (pureV P o ρ) else aMax b (c.args.toList.map ρ)
   | _ => none
  | .binOp op t x y _ =>
   match nilV P op t (ρ x) (ρ y) with
   | some v => some v
   | none => if allReal o ρ then realR (pureV P o ρ) else aBin P op t (ρ x) (ρ y)
  | .unOp op _ x => if allReal o ρ then realR (pureV P o ρ) else aUn op (ρ x)
  | .convert s d x => if allReal o ρ then realR (pureV P o ρ) else aConv P s d (ρ x)
  | .field _ _ _ => pureV P o ρ
  | .index _ x ix => (match ρ x, ρ ix with
   | .agg _, .int _ _ => pureV P o ρ
   | _, _ => if allReal o ρ then realR (pureV P o ρ) else none)
  | .extract x _ => (match ρ x with
   | .tuple ⟨_ :: _ :: _⟩ => pureV P o ρ
   | _ => none)
  | .build t ps => if zeroOk P t && ps.toList.all (fun p => notMulti (ρ p.2)) then pureV P o ρ else none
  | _ => if allReal o ρ then realR (pureV P o ρ) else none
 else none
section
variable {P : Program} {τ : Nat → Int}
theorem realR_is {r : Option Value} {v : Value} (h : realR r = some v) : r = some v ∧ real2 v = true := by
 unfold realR at h
 split at h
 ·split at h
  ·cases h
   exact ⟨rfl, by assumption⟩
  ·cases h
 ·cases h
theorem max_q (k : IntKind) : ∀ (r : List Value), (∀ v ∈ r, ∃ x, v = .int k x) → ∀ a : Int, ∃ z, qrun P (r.foldlM Builtin.max2 (.int k a)) = some (.int k z)
 | [], _, a => ⟨a, rfl⟩
 | v :: r, h, a => by
  obtain ⟨x, rfl⟩ := h v List.mem_cons_self
  obtain ⟨z, hz⟩ := max_q k r (fun v hv => h v (List.mem_cons_of_mem _ hv)) (if x > a then x else a)
  exact ⟨z, by rw [List.foldlM_cons, qrun_bind]; exact hz⟩
theorem min_q (k : IntKind) : ∀ (r : List Value), (∀ v ∈ r, ∃ x, v = .int k x) → ∀ a : Int, ∃ z, qrun P (r.foldlM Builtin.min2 (.int k a)) = some (.int k z)
 | [], _, a => ⟨a, rfl⟩
 | v :: r, h, a => by
  obtain ⟨x, rfl⟩ := h v List.mem_cons_self
  obtain ⟨z, hz⟩ := min_q k r (fun v hv => h v (List.mem_cons_of_mem _ hv)) (if x < a then x else a)
  exact ⟨z, by rw [List.foldlM_cons, qrun_bind]; exact hz⟩
theorem exec_builtin {o : Oper} {c : Call} {b : Builtin} (hop : o.op = .call c) (hc : c.callee = .builtin b) (ρ : Operand → Value) : execOp ρ o = builtin b c.argTypes o.type (c.args.map fun | .const _ => true | _ => false) (c.args.map ρ) := by
 simp only [execOp, hop, resolve, hc]
 rfl
theorem aMax_ok {o : Oper} {c : Call} {b : Builtin} (hop : o.op = .call c) (hc : c.callee = .builtin b) {at' vt : List Value} {r : Value} (h : aMax b (c.args.toList.map (VE at')) = some r) (hg : ∀ x ∈ o.op.operands, G2 τ (VE at' x) (VE vt x)) : ∃ v, pureV P o (VE vt) = some v ∧ G2 τ r v := by
 have hmem : ∀ x ∈ c.args.toList, x ∈ o.op.operands := fun x hx => by
  simp only [hop, Op.operands, Call.operands]
  exact Array.mem_append_right _ (by simpa using hx)
 have key : ∀ (k : IntKind) (x : Operand) (l : List Operand), c.args.toList = x :: l → kindA (VE at' x) = some k → (l.map (VE at')).all (fun y => kindA y == some k) = true → (∃ a, VE vt x = .int k a) ∧ ∀ v ∈ l.map (VE vt), ∃ a, v = .int k a := by
  intro k x l hl hk hall
  refine ⟨kindA_is hk (hg x (hmem x (by rw [hl]; exact List.mem_cons_self))), fun v hv => ?_⟩
  obtain ⟨y, hy, rfl⟩ := List.mem_map.1 hv
  have h2 := List.all_eq_true.1 hall (VE at' y) (List.mem_map.2 ⟨y, hy, rfl⟩)
  exact kindA_is (by simpa using h2) (hg y (hmem y (by rw [hl]; exact List.mem_cons_of_mem _ hy)))
 have hp : ∀ (k : IntKind) (x : Operand) (l : List Operand), c.args.toList = x :: l → (∃ a, VE vt x = .int k a) → (∀ v ∈ l.map (VE vt), ∃ a, v = .int k a) → ∀ z ∈ o.op.operands, isP (VE vt z) = false := by
  intro k x l hl h1 h2 z hz
  have hz : z ∈ c.args.toList := by
   simp only [hop, Op.operands, Call.operands, hc] at hz
   simpa using hz
  rw [hl] at hz
  rcases List.mem_cons.1 hz with rfl | hz
  ·obtain ⟨a, e⟩ := h1
   rw [e]; rfl
  ·obtain ⟨a, e⟩ := h2 _ (List.mem_map.2 ⟨z, hz, rfl⟩)
   rw [e]; rfl
 unfold aMax at h
 split at h
 ·rename_i x r' hl
  obtain ⟨y, l, hcl, rfl, rfl⟩ := List.map_eq_cons_iff.1 hl
  split at h
  ·rename_i k hk
   split at h
   ·rename_i hall
    cases h
    obtain ⟨h1, h2⟩ := key k y l hcl hk hall
    have h0 := hp k y l hcl h1 h2
    obtain ⟨a, ea⟩ := h1
    obtain ⟨z, hz⟩ := max_q (P := P) k _ h2 a
    refine ⟨.int k z, pureV_of h0 ?_ rfl, .unk⟩
    rw [exec_builtin hop hc]
    show qrun P (Builtin.max_ _ _ _ >>= fun z => pure (Next.value z)) = _
    rw [one_qr]
    unfold Builtin.max_
    rw [Array.toList_map, hcl, List.map_cons, ea]
    exact hz
   ·cases h
  ·cases h
 ·rename_i x r' hl
  obtain ⟨y, l, hcl, rfl, rfl⟩ := List.map_eq_cons_iff.1 hl
  split at h
  ·rename_i k hk
   split at h
   ·rename_i hall
    cases h
    obtain ⟨h1, h2⟩ := key k y l hcl hk hall
    have h0 := hp k y l hcl h1 h2
    obtain ⟨a, ea⟩ := h1
    obtain ⟨z, hz⟩ := min_q (P := P) k _ h2 a
    refine ⟨.int k z, pureV_of h0 ?_ rfl, .unk⟩
    rw [exec_builtin hop hc]
    show qrun P (Builtin.min_ _ _ _ >>= fun z => pure (Next.value z)) = _
    rw [one_qr]
    unfold Builtin.min_
    rw [Array.toList_map, hcl, List.map_cons, ea]
    exact hz
   ·cases h
  ·cases h
 ·cases h
theorem aq_ok {cl : Nat → Bool} {id : Nat} {o : Oper} {at' vt : List Value} {am m : Xm} {r : Value} (h : aq P cl id o (VE at') am = some r) (F : GF τ at' vt) (M : GM τ am m) : ∃ v, vq P cl id o (VE vt) m = some v ∧ G2 τ r v := by
 unfold aq at h
 split at h
 case isFalse => cases h
 rename_i hok
 have hev : ∀ x ∈ o.op.operands, G2 τ (VE at' x) (VE vt x) := fun x hx => F.ev (Array.all_eq_true_iff_forall_mem.1 hok x hx)
 have hokX : o.op.operands.all okX = true := Array.all_eq_true_iff_forall_mem.2 (fun x hx => okA_okX (Array.all_eq_true_iff_forall_mem.1 hok x hx))
 have hreal : (∀ cs b, o.op ≠ .select cs b) → allReal o (VE at') = true → realR (pureV P o (VE at')) = some r → pureV P o (VE vt) = some r ∧ G2 τ r r := fun hs ha hr => by
  obtain ⟨h1, h2⟩ := realR_is hr
  have agree : ∀ x ∈ o.op.operands, VE at' x = VE vt x := fun x hx => (real2_eq _ _ (Array.all_eq_true_iff_forall_mem.1 ha x hx) (hev x hx)).symm
  refine ⟨?_, real2_same h2⟩
  rw [← h1]
  unfold pureV
  have e : o.op.operands.all (fun x => !isP (VE vt x)) = o.op.operands.all (fun x => !isP (VE at' x)) := by
   rw [Bool.eq_iff_iff, Array.all_eq_true_iff_forall_mem, Array.all_eq_true_iff_forall_mem]
   exact ⟨fun h x hx => by rw [agree x hx]; exact h x hx, fun h x hx => by rw [← agree x hx]; exact h x hx⟩
  rw [e, execOp_congr o hs agree]
 unfold vq
 rw [if_pos hokX]
 cases hop : o.op <;> rw [hop] at h <;> dsimp only at h ⊢
 case move x => cases h; exact ⟨_, rfl, hev x (by simp [hop, Op.operands])⟩
 case assign x => cases h; exact ⟨_, rfl, hev x (by simp [hop, Op.operands])⟩
 case pick c a b => exact aPick_ok h (hev c (by simp [hop, Op.operands])) (hev a (by simp [hop, Op.operands])) (hev b (by simp [hop, Op.operands]))
 case load t x =>
  have h1 := hev x (by simp [hop, Op.operands])
  split at h
  ·rename_i k off hx
   rw [hx] at h1
   rw [h1.ptr]
   dsimp only
   split at h
   ·rename_i hc
    rw [if_pos hc]
    split at h
    ·rename_i l hl
     obtain ⟨l', hl', gl⟩ := M.g k l hl
     rw [hl']
     dsimp only
     split at h
     ·rename_i u hu
      obtain ⟨v, hv, gv⟩ := loadV_nat hu gl
      rw [hv]
      dsimp only
      split at h
      ·cases h
      ·rename_i hp
       cases h
       rw [if_neg (by rw [gv.isP]; exact hp)]
       exact ⟨v, rfl, gv⟩
     ·cases h
    ·cases h
   ·cases h
  ·cases h
 case fieldAddr s x f =>
  have h1 := hev x (by simp [hop, Op.operands])
  split at h
  ·rename_i k off hx
   rw [hx] at h1
   rw [h1.ptr]
   dsimp only
   split at h
   ·rename_i d hd
    cases h
    rw [hd]
    exact ⟨_, rfl, rfl, rfl⟩
   ·cases h
  ·cases h
 case indexAddr t x ix =>
  have h1 := hev x (by simp [hop, Op.operands])
  have h2 := hev ix (by simp [hop, Op.operands])
  split at h
  ·rename_i k off hx
   rw [hx] at h1
   rw [h1.ptr]
   dsimp only
   split at h
   ·rename_i d hd
    cases h
    have e : VE vt ix = VE at' ix := by
     unfold indexV at hd
     split at hd
     ·rename_i e
      rw [e] at h2 ⊢
      exact h2.int
     ·cases hd
    rw [e, hd]
    exact ⟨_, rfl, rfl, rfl⟩
   ·cases h
  ·cases h
 case nilCheck x =>
  have h1 := hev x (by simp [hop, Op.operands])
  split at h
  ·rename_i b hx
   rw [hx] at h1
   rw [h1.ptr]
   cases h
   exact ⟨_, rfl, rfl, rfl⟩
  ·cases h
 case alloc t => cases h; exact ⟨_, rfl, rfl, rfl⟩
 case store => cases h
 case box => cases h
 case select => cases h
 case call c =>
  split at h
  ·rename_i b hc
   rw [hc]
   dsimp only
   split at h
   ·rename_i ha
    obtain ⟨h1, h2⟩ := hreal (by rw [hop]; simp) ha h
    exact ⟨r, h1, h2⟩
   ·exact aMax_ok hop hc h hev
  ·cases h
 case binOp op t x y t2 =>
  have h1 := hev x (by simp [hop, Op.operands])
  have h2 := hev y (by simp [hop, Op.operands])
  split at h
  ·rename_i u hn
   cases h
   have hn2 := hn
   unfold nilV at hn2
   split at hn2
   ·rename_i b e1 e2
    rw [e1] at h1
    rw [e2] at h2
    rw [h1.ptr, h2.ptr, ← e1, ← e2, hn]
    refine ⟨r, rfl, ?_⟩
    split at hn2
    ·cases hn2; exact ⟨rfl, rfl⟩
    ·cases hn2; exact ⟨rfl, rfl⟩
    ·cases hn2
   ·cases hn2
  ·rename_i hn
   split at h
   ·rename_i ha
    obtain ⟨e1, e2⟩ := hreal (by rw [hop]; simp) ha h
    have ex : VE vt x = VE at' x := real2_eq _ _ (Array.all_eq_true_iff_forall_mem.1 ha x (by simp [hop, Op.operands])) h1
    have ey : VE vt y = VE at' y := real2_eq _ _ (Array.all_eq_true_iff_forall_mem.1 ha y (by simp [hop, Op.operands])) h2
    have q := pureW_of hop e1
    rw [ex, ey] at q
    rw [ex, ey, hn]
    exact ⟨r, q, e2⟩
   ·obtain ⟨e1, v, hv, gv⟩ := aBin_ok hop h h1 h2
    rw [e1]
    exact ⟨v, pureW_of hop hv, gv⟩
 case unOp op t x =>
  split at h
  ·rename_i ha
   obtain ⟨h1, h2⟩ := hreal (by rw [hop]; simp) ha h
   exact ⟨r, h1, h2⟩
  ·exact aUn_ok hop h (hev x (by simp [hop, Op.operands]))
 case convert s d x =>
  split at h
  ·rename_i ha
   obtain ⟨h1, h2⟩ := hreal (by rw [hop]; simp) ha h
   exact ⟨r, h1, h2⟩
  ·exact aConv_ok hop h (hev x (by simp [hop, Op.operands]))
 case field t x f =>
  exact pure_nat (S := Instr.field t (VE at' x) f) (S' := Instr.field t (VE vt x) f) (by simp only [execOp, hop]) (by simp only [execOp, hop]) h hev (fun hq => field_nat hq (hev x (by simp [hop, Op.operands])))
 case index t x ix =>
  have h1 := hev x (by simp [hop, Op.operands])
  have h2 := hev ix (by simp [hop, Op.operands])
  split at h
  ·rename_i cs k i e1 e2
   rw [e2] at h2
   have e3 := h2.int
   refine pure_nat (S := Instr.index t (VE at' x) (VE at' ix)) (S' := Instr.index t (VE vt x) (VE vt ix)) (by simp only [execOp, hop]) (by simp only [execOp, hop]) h hev (fun hq => ?_)
   rw [e2] at hq
   rw [e3]
   exact index_nat hq ⟨cs, e1⟩ h1
  ·split at h
   ·rename_i ha
    obtain ⟨h1, h2⟩ := hreal (by rw [hop]; simp) ha h
    exact ⟨r, h1, h2⟩
   ·cases h
 case extract x i =>
  have h1 := hev x (by simp [hop, Op.operands])
  split at h
  ·rename_i a b rs e1
   refine pure_nat (S := Instr.extract (VE at' x) i) (S' := Instr.extract (VE vt x) i) (by simp only [execOp, hop]) (by simp only [execOp, hop]) h hev (fun hq => ?_)
   rw [e1] at hq h1
   exact extract_nat hq h1
  ·cases h
 case build t ps =>
  split at h
  ·rename_i hc
   rw [Bool.and_eq_true] at hc
   refine pure_nat (S := Instr.build t (ps.map fun (i, x) => (i, VE at' x))) (S' := Instr.build t (ps.map fun (i, x) => (i, VE vt x))) (by simp only [execOp, hop]) (by simp only [execOp, hop]) h hev (fun hq => ?_)
   refine build_nat hc.1 hq ?_
   have hall := List.all_eq_true.1 hc.2
   have hmem : ∀ p ∈ ps.toList, G2 τ (VE at' p.2) (VE vt p.2) := fun p hp => hev p.2 (by
    simp only [hop, Op.operands]
    exact List.mem_toArray.2 (List.mem_map.2 ⟨p, hp, rfl⟩))
   rw [Array.toList_map, Array.toList_map]
   revert hall hmem
   generalize ps.toList = l
   induction l with
   | nil => intros; trivial
   | cons p l ih =>
    intro hall hmem
    exact ⟨⟨rfl, cells_nat (hmem p List.mem_cons_self) (hall p List.mem_cons_self)⟩, ih (fun q hq => hall q (List.mem_cons_of_mem _ hq)) (fun q hq => hmem q (List.mem_cons_of_mem _ hq))⟩
  ·cases h
 all_goals
  split at h
  ·rename_i ha
   obtain ⟨h1, h2⟩ := hreal (by rw [hop]; simp) ha h
   exact ⟨r, h1, h2⟩
  ·cases h
end
end Go.Proofs.YtbophanlmkbfeaaGreatDoor
