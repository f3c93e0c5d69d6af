/-
  A run over names: the methods of flows, the code's and the document's, for the seat YtoadcnhcfodkgaaGreatDoor.
-/
import Derived.Test.YtoadcnhcfodkgaaGreatDoorNxJ
import Derived.Test.YtoadcnhcfodkgaaGreatDoorMeth
import Derived.Test.YtoadcnhcfodkgaaGreatDoorMNorm
import Derived.Test.YtoadcnhcfodkgaaGreatDoorRMeth
import Derived.Test.YtoadcnhcfodkgaaGreatDoorRRoot
import Derived.Test.YtoadcnhcfodkgaaGreatDoorRNorm
import Derived.Test.YtoadcnhcfodkgaaGreatDoorRFail
namespace Go.Proofs.YtoadcnhcfodkgaaGreatDoor.Nx
open Go.RowKit Go.Proofs.YtoadcnhcfodkgaaGreatDoor

abbrev uI : Value := unk .i64
def rI (n : Nat) : Value := .agg ⟨List.replicate n uI⟩
theorem xmixA : Tryz.prog.follows .mixedOrders = true := by kernel_rfl
/-- What a method of a flow answers, by its steps' plain words. -/
def gS {A : Type} (d : Dl A) (S : Bool → A → Int × Bool) : Bool → Bool → List Value → Value × Bool := fun _ b rest =>
  match d.dec rest with
  | some x => (.int .i64 (S b x).1, (S b x).2)
  | none => (undef, true)
theorem pr_prim {P : Program} {fn : Bool → Nat} {A : Type} {d : Dl A} {S : Bool → A → Int × Bool} {sa : List Value} {kind : Nat} (hd : ∀ rest, All2 (G2 []) sa rest → ∃ x, d.dec rest = some x)
    (h : ∀ s b bad x w, Fl b bad w → Calls P (fn s) (ptr b :: d.enc x).toArray w fun e w' => e = .returned (.int .i64 (S bad x).1) ∧ Fl b (S bad x).2 w' ∧ Kept b w w') (hst : ∀ x, (S true x).2 = true) (hz : ∀ b x, (S b x).2 = true → (S b x).1 = 0) (h4 : kind < 4 ∨ kind = 6) (hk : KLaw kind (gS d S)) (hb : BLaw kind (gS d S)) : ∃ g, PrOk P fn sa uI kind g := by
  refine ⟨gS d S, fun s b rest hc => ?_, fun rest hc => ⟨rfl, fun _ => rfl⟩, hk, hb⟩
  obtain ⟨x, hx⟩ := hd rest hc
  have he := d.law _ _ hx
  unfold gS
  rw [hx]
  refine ⟨⟨fun _ => ⟨fun u hu => ?_, rfl, fun k w _ _ hw => ?_⟩, fun e => (by omega)⟩, fun e => by rw [e]; exact hst x, ⟨_, rfl⟩, fun e => (by omega), fun _ e => congrArg (Value.int .i64) (hz b x e), fun e => (by omega), fun e => (by omega)⟩
  · rw [he] at hu
    exact d.np x u hu
  · rw [he]
    exact h s k b x w hw
theorem d1 (rest : List Value) (h : All2 (G2 []) [uI] rest) : ∃ x, (lone' cI).dec rest = some x := by
  match rest, h with
  | [a], ⟨⟨x, e⟩, _⟩ => exact ⟨x, by rw [e]; rfl⟩
theorem d2 (rest : List Value) (h : All2 (G2 []) [uI, uI] rest) : ∃ x, (then' cI (lone' cI)).dec rest = some x := by
  match rest, h with
  | [a, b], ⟨⟨x, e⟩, ⟨y, f⟩, _⟩ => exact ⟨(x, y), by rw [e, f]; rfl⟩
theorem d3 (rest : List Value) (h : All2 (G2 []) [uI, uI, uI] rest) : ∃ x, (then' cI (then' cI (lone' cI))).dec rest = some x := by
  match rest, h with
  | [a, b, c], ⟨⟨x, e⟩, ⟨y, f⟩, ⟨z, g⟩, _⟩ => exact ⟨(x, y, z), by rw [e, f, g]; rfl⟩
/-! ### Laws of sums and products -/
theorem mem2 {a b x : Int} (h : Value.int .i64 x ∈ [Value.int .i64 a, .int .i64 b]) : x = a ∨ x = b := by simpa using h
theorem mem3 {a b c x : Int} (h : Value.int .i64 x ∈ [Value.int .i64 a, .int .i64 b, .int .i64 c]) : x = a ∨ x = b ∨ x = c := by simpa using h
theorem num2 {S : Bool → Int × Int → Int × Bool} (hS : ∀ a b, (S false (a, b)).2 = false → numB a = true ∧ numB b = true ∧ numB (S false (a, b)).1 = true) (rest : List Value) (s : Bool) (h : (gS (then' cI (lone' cI)) S s false rest).2 = false) :
    (∀ x, Value.int .i64 x ∈ rest → numB x = true) ∧ ∀ x, (gS (then' cI (lone' cI)) S s false rest).1 = .int .i64 x → numB x = true := by
  unfold gS at h ⊢
  cases hd : (then' cI (lone' cI)).dec rest with
  | none => rw [hd] at h; cases h
  | some y =>
    rw [hd] at h
    obtain ⟨h1, h2, h3⟩ := hS y.1 y.2 h
    have he := (then' cI (lone' cI)).law _ _ hd
    rw [he]
    refine ⟨fun x hx => ?_, fun x hx => ?_⟩
    · rcases mem2 hx with rfl | rfl
      · exact h1
      · exact h2
    · cases hx
      exact h3
theorem comm2 {S : Bool → Int × Int → Int × Bool} (hS : ∀ b x y, S b (x, y) = S b (y, x)) (s b : Bool) (x y : Value) : gS (then' cI (lone' cI)) S s b [x, y] = gS (then' cI (lone' cI)) S s b [y, x] := by
  have hd : ∀ u v : Value, (then' cI (lone' cI)).dec [u, v] = (match cI.dec u, cI.dec v with
    | some a, some b => some (a, b)
    | _, _ => none) := fun u v => by
    cases h1 : cI.dec u <;> cases h2 : cI.dec v <;> simp [then', lone', h1, h2]
  unfold gS
  rw [hd, hd]
  cases cI.dec x <;> cases cI.dec y <;> try rfl
  dsimp only
  rw [hS]
theorem gv_zb {n : Int} (h : (gv n).2 = true) : (gv n).1 = 0 := by
  unfold gv at h ⊢
  have h : ¬ numB n = true := by simpa using h
  rw [if_neg h]
theorem out_zb {n : Int} {m : Bool} (h : (out n m).2 = true) : (out n m).1 = 0 := by
  unfold out sgnd at *
  have h : 4611686018427387904 < n := by simpa using h
  dsimp only
  rw [if_neg (by omega)]
theorem addS_zb (b : Bool) (x y : Int) (h : (addS b x y).2 = true) : (addS b x y).1 = 0 := by
  unfold addS at h ⊢
  split at h
  · rename_i c
    rw [if_pos c]
    exact gv_zb h
  · rename_i c
    rw [if_neg c]
theorem subS_zb (b : Bool) (x y : Int) (h : (subS b x y).2 = true) : (subS b x y).1 = 0 := by
  unfold subS at h ⊢
  split at h
  · rename_i c
    rw [if_pos c]
    exact gv_zb h
  · rename_i c
    rw [if_neg c]
theorem partS_zb (b : Bool) (x p q : Int) (h : (partS b x p q).2 = true) : (partS b x p q).1 = 0 := by
  unfold partS at h ⊢
  split at h
  · rename_i c
    rw [if_pos c]
    exact out_zb h
  · rename_i c
    rw [if_neg c]
theorem mulS_zb (b : Bool) (x y : Int) (h : (mulS b x y).2 = true) : (mulS b x y).1 = 0 := partS_zb b x y _ h
theorem divS_zb (b : Bool) (x y : Int) (h : (divS b x y).2 = true) : (divS b x y).1 = 0 := partS_zb b x _ y h
theorem modS_zb (b : Bool) (x y : Int) (h : (modS b x y).2 = true) : (modS b x y).1 = 0 := by
  unfold modS at h ⊢
  split at h
  · cases h
  · rename_i c
    rw [if_neg c]
theorem sqrtS_zb (b : Bool) (x : Int) (h : (sqrtS b x).2 = true) : (sqrtS b x).1 = 0 := by
  unfold sqrtS at h ⊢
  split at h
  · rename_i c
    rw [if_pos c]
    exact out_zb h
  · rename_i c
    rw [if_neg c]
theorem normS_zb (b : Bool) (x y z : Int) (h : (normS b x y z).2 = true) : (normS b x y z).1 = 0 := by
  unfold normS at h ⊢
  split at h
  · rename_i c
    rw [if_pos c]
    exact out_zb h
  · rename_i c
    rw [if_neg c]
theorem gv_num {n : Int} (h : (gv n).2 = false) : numB (gv n).1 = true := by
  unfold gv at h ⊢
  have h : numB n = true := by simpa using h
  rw [if_pos h]
  exact h
theorem addS_num (a b : Int) (h : (addS false a b).2 = false) : numB a = true ∧ numB b = true ∧ numB (addS false a b).1 = true := by
  unfold addS at h ⊢
  split at h
  · rename_i c
    rw [if_pos c]
    exact ⟨(tk_two c).2.1, (tk_two c).2.2, gv_num h⟩
  · cases h
theorem subS_num (a b : Int) (h : (subS false a b).2 = false) : numB a = true ∧ numB b = true ∧ numB (subS false a b).1 = true := by
  unfold subS at h ⊢
  split at h
  · rename_i c
    rw [if_pos c]
    exact ⟨(tk_two c).2.1, (tk_two c).2.2, gv_num h⟩
  · cases h
theorem addS_comm (b : Bool) (x y : Int) : addS b x y = addS b y x := by
  unfold addS tk
  rw [Int.add_comm x y]
  simp only [List.all_cons, List.all_nil, Bool.and_true]
  rw [Bool.and_comm (numB x)]
theorem addS_zero (x : Int) (h : numB x = true) : addS false x 0 = (x, false) := by
  unfold addS tk gv
  have h0 : numB 0 = true := by decide
  simp [h, h0]
theorem out_num {n : Int} {m : Bool} (hn : 0 ≤ n) (h : (out n m).2 = false) : numB (out n m).1 = true := by
  unfold out sgnd at *
  have h : ¬ 4611686018427387904 < n := by simpa using h
  dsimp only
  rw [if_pos (by omega)]
  unfold numB
  split <;> simp <;> omega
theorem partS_num (a p q : Int) (h : (partS false a p q).2 = false) : numB a = true ∧ numB p = true ∧ numB q = true ∧ numB (partS false a p q).1 = true := by
  unfold partS at h ⊢
  split at h
  · rename_i c
    rw [if_pos c]
    rw [Bool.and_eq_true] at c
    obtain ⟨_, c1, c2, c3⟩ := tk_three c.1
    refine ⟨c1, c2, c3, out_num ?_ h⟩
    have hq : q ≠ 0 := by simpa using c.2
    have hs : ∀ x : Int, 0 ≤ sz x := fun x => by unfold sz; split <;> omega
    have hs1 : 1 ≤ sz q := by unfold sz; split <;> omega
    exact rnd_nonneg (Int.mul_nonneg (hs _) (hs _)) hs1
  · cases h
theorem mulS_num (a b : Int) (h : (mulS false a b).2 = false) : numB a = true ∧ numB b = true ∧ numB (mulS false a b).1 = true := by
  obtain ⟨h1, h2, _, h4⟩ := partS_num a b _ h
  exact ⟨h1, h2, h4⟩
theorem divS_num (a b : Int) (h : (divS false a b).2 = false) : numB a = true ∧ numB b = true ∧ numB (divS false a b).1 = true := by
  obtain ⟨h1, _, h3, h4⟩ := partS_num a _ b h
  exact ⟨h1, h3, h4⟩
theorem mulS_comm (b : Bool) (x y : Int) : mulS b x y = mulS b y x := by
  unfold mulS partS tk
  rw [Int.mul_comm (sz x)]
  simp only [List.all_cons, List.all_nil, Bool.and_true]
  rw [← Bool.and_assoc (numB x), Bool.and_comm (numB x), Bool.and_assoc (numB y)]
  cases decide (x < 0) <;> cases decide (y < 0) <;> rfl
theorem mulS_zero (x : Int) (h : numB x = true) : mulS false x 0 = (0, false) := by
  unfold mulS partS tk
  have h0 : numB 0 = true := by decide
  have h1 : numB 1099511627776 = true := by decide
  have e0 : sz 0 = 0 := by decide
  simp only [List.all_cons, List.all_nil, Bool.and_true, h, h0, h1, Bool.not_false, e0, Int.mul_zero]
  cases decide (x < 0) <;> decide
theorem modS_num (a m : Int) (h : (modS false a m).2 = false) : numB a = true ∧ numB m = true ∧ numB (modS false a m).1 = true := by
  unfold modS at h ⊢
  split at h
  · rename_i c
    rw [if_pos c]
    rw [Bool.and_eq_true] at c
    obtain ⟨_, c1, c2⟩ := tk_two c.1
    have hm : 0 < m := of_decide_eq_true c.2
    refine ⟨c1, c2, ?_⟩
    have := numB_bd c2
    have b1 := Int.emod_nonneg a (show m ≠ 0 by omega)
    have b2 := Int.emod_lt_of_pos a hm
    unfold numB
    simp only [Bool.and_eq_true, decide_eq_true_eq]
    omega
  · cases h
theorem sqrtS_num (a : Int) (h : (sqrtS false a).2 = false) : numB a = true ∧ numB (sqrtS false a).1 = true := by
  unfold sqrtS at h ⊢
  split at h
  · rename_i c
    rw [if_pos c]
    rw [Bool.and_eq_true] at c
    have c1 : numB a = true := by have := c.1; unfold tk at this; simpa using this
    have h0 : 0 ≤ a := of_decide_eq_true c.2
    have b := numB_bd c1
    exact ⟨c1, out_num (isq_spec _ (by omega) (by omega)).1 h⟩
  · cases h
theorem normS_num (a b c : Int) (h : (normS false a b c).2 = false) : numB a = true ∧ numB b = true ∧ numB c = true ∧ numB (normS false a b c).1 = true := by
  unfold normS at h ⊢
  split at h
  · rename_i k
    rw [if_pos k]
    obtain ⟨_, c1, c2, c3⟩ := tk_three k
    have sq : ∀ x : Int, numB x = true → 0 ≤ x * x ∧ x * x ≤ 21267647932558653966460912964485513216 := fun x hx => by
      have b := numB_bd hx
      refine ⟨by by_cases h0 : 0 ≤ x; exact Int.mul_nonneg h0 h0; rw [← Int.neg_mul_neg]; exact Int.mul_nonneg (by omega) (by omega), ?_⟩
      by_cases h0 : 0 ≤ x
      · exact sq_mono h0 b.2
      · have : (-x) * (-x) ≤ _ := sq_mono (show 0 ≤ -x by omega) (show -x ≤ 4611686018427387904 by omega)
        rw [Int.neg_mul_neg] at this
        exact this
    have q1 := sq a c1
    have q2 := sq b c2
    have q3 := sq c c3
    exact ⟨c1, c2, c3, out_num (isq_spec _ (by omega) (by omega)).1 h⟩
  · cases h
theorem two_law {S : Bool → Int × Int → Int × Bool} (hS : ∀ a b, (S false (a, b)).2 = false → numB a = true ∧ numB b = true ∧ numB (S false (a, b)).1 = true) : KLaw 3 (gS (then' cI (lone' cI)) S) :=
  ⟨fun e => by omega, fun e => by omega, fun e => by omega, fun _ d rest h => num2 hS rest d h⟩
theorem six_law {S : Bool → Int × Int → Int × Bool} (hS : ∀ a b, (S false (a, b)).2 = false → numB a = true ∧ numB b = true ∧ numB (S false (a, b)).1 = true) : KLaw 6 (gS (then' cI (lone' cI)) S) :=
  ⟨fun e => by omega, fun e => by omega, fun e => by omega, fun _ d rest h => num2 hS rest d h⟩
theorem no_bl {g : Bool → Bool → List Value → Value × Bool} : BLaw 3 g := ⟨fun e => by omega, fun e => by omega, fun e => by omega⟩
theorem gv_val {n : Int} (h : (gv n).2 = false) : (gv n).1 = n := by
  unfold gv at h ⊢
  have h : numB n = true := by simpa using h
  rw [if_pos h]
theorem addS_val {x y : Int} (h : (addS false x y).2 = false) : (addS false x y).1 = x + y := by
  unfold addS at h ⊢
  split at h
  · rename_i c
    rw [if_pos c, gv_val h]
  · cases h
theorem subS_val {x y : Int} (h : (subS false x y).2 = false) : (subS false x y).1 = x - y := by
  unfold subS at h ⊢
  split at h
  · rename_i c
    rw [if_pos c, gv_val h]
  · cases h
theorem add_bl : BLaw 1 (gS (then' cI (lone' cI)) (fun b x => addS b x.1 x.2)) := ⟨fun _ d x y h => congrArg (Value.int .i64) (addS_val h), fun e => (by omega), fun e => (by omega)⟩
theorem numB_small {x : Int} (h : x.natAbs ≤ 4611686018427387904) : numB x = true := by
  unfold numB
  simp only [Bool.and_eq_true, decide_eq_true_eq]
  omega
theorem subS_small {x y : Int} (hx : x.natAbs ≤ 2305843009213693952) (hy : y.natAbs ≤ 2305843009213693952) : (subS false x y).2 = false := by
  have n1 := numB_small (x := x) (by omega)
  have n2 := numB_small (x := y) (by omega)
  have n3 := numB_small (x := x - y) (by omega)
  unfold subS tk gv
  simp [n1, n2, n3]
theorem sub_bl : BLaw 6 (gS (then' cI (lone' cI)) (fun b x => subS b x.1 x.2)) := ⟨fun e => (by omega), fun _ d x y => ⟨fun h => congrArg (Value.int .i64) (subS_val h), fun hx hy => subS_small hx hy⟩, fun e => (by omega)⟩
theorem sz_abs (x : Int) : sz x = x.natAbs := by
  unfold sz
  split <;> omega
theorem partS_near (a p q : Int) (h : (partS false a p q).2 = false) : (partS false a p q).1.natAbs * q.natAbs ≤ a.natAbs * p.natAbs + q.natAbs / 2 := by
  unfold partS at h ⊢
  split at h
  · rename_i c
    rw [if_pos c]
    rw [Bool.and_eq_true] at c
    have hq : q ≠ 0 := by simpa using c.2
    have h1 : (1 : Int) ≤ sz q := by rw [sz_abs]; omega
    have hn := rnd_near (sz a * sz p) (sz q) h1
    have h0 := rnd_nonneg (n := sz a * sz p) (d := sz q) (Int.mul_nonneg (by rw [sz_abs]; omega) (by rw [sz_abs]; omega)) h1
    generalize hr : rnd (sz a * sz p) (sz q) = r at *
    have e : (out r ((decide (a < 0) != decide (p < 0)) != decide (q < 0))).1.natAbs = r.natAbs := by
      unfold out sgnd at *
      have h : ¬ 4611686018427387904 < r := by simpa using h
      dsimp only
      rw [if_pos (by omega)]
      split <;> omega
    rw [e]
    have h3 : ((r.natAbs * q.natAbs : Nat) : Int) ≤ ((a.natAbs * p.natAbs + q.natAbs / 2 : Nat) : Int) := by
      have e1 : ((r.natAbs * q.natAbs : Nat) : Int) = r * sz q := by rw [sz_abs, Int.natCast_mul]; congr 1; omega
      have e2 : ((a.natAbs * p.natAbs + q.natAbs / 2 : Nat) : Int) = sz a * sz p + sz q / 2 := by rw [sz_abs, sz_abs, sz_abs, Int.natCast_add, Int.natCast_mul]; rfl
      rw [e1, e2]
      exact hn.1
    exact Int.ofNat_le.1 h3
  · cases h
theorem mulS_near {x y : Int} (h : (mulS false x y).2 = false) : (mulS false x y).1.natAbs * 1099511627776 ≤ x.natAbs * y.natAbs + 1099511627776 := by
  have := partS_near x y 1099511627776 h
  have e : Int.natAbs 1099511627776 = 1099511627776 := rfl
  rw [e] at this
  show (partS false x y 1099511627776).1.natAbs * 1099511627776 ≤ _
  omega
theorem mul_bl : BLaw 2 (gS (then' cI (lone' cI)) (fun b x => mulS b x.1 x.2)) := ⟨fun e => (by omega), fun e => (by omega), fun _ d x y h => ⟨_, rfl, mulS_near h⟩⟩
theorem add_law : KLaw 1 (gS (then' cI (lone' cI)) (fun b x => addS b x.1 x.2)) :=
  ⟨fun _ d b x y => comm2 (fun b x y => addS_comm b x y) d b x y, fun _ d x hx => by unfold gS; show (Value.int .i64 (addS false x 0).1, (addS false x 0).2) = _; rw [addS_zero x hx], fun e => by omega, fun _ d rest h => num2 (fun a b => addS_num a b) rest d h⟩
theorem mul_law : KLaw 2 (gS (then' cI (lone' cI)) (fun b x => mulS b x.1 x.2)) :=
  ⟨fun _ d b x y => comm2 (fun b x y => mulS_comm b x y) d b x y, fun e => by omega, fun _ d x hx => by unfold gS; show (Value.int .i64 (mulS false x 0).1, (mulS false x 0).2) = _; rw [mulS_zero x hx], fun _ d rest h => num2 (fun a b => mulS_num a b) rest d h⟩
theorem part_law : KLaw 3 (gS (then' cI (then' cI (lone' cI))) (fun b x => partS b x.1 x.2.1 x.2.2)) :=
  ⟨fun e => by omega, fun e => by omega, fun e => by omega, fun _ d rest h => by
    unfold gS at h ⊢
    cases hd : (then' cI (then' cI (lone' cI))).dec rest with
    | none => rw [hd] at h; cases h
    | some y =>
      rw [hd] at h
      obtain ⟨h1, h2, h3, h4⟩ := partS_num y.1 y.2.1 y.2.2 h
      have he := (then' cI (then' cI (lone' cI))).law _ _ hd
      rw [he]
      refine ⟨fun x hx => ?_, fun x hx => ?_⟩
      · rcases mem3 hx with rfl | rfl | rfl
        · exact h1
        · exact h2
        · exact h3
      · cases hx
        exact h4⟩
theorem norm_law : KLaw 3 (gS (then' cI (then' cI (lone' cI))) (fun b x => normS b x.1 x.2.1 x.2.2)) :=
  ⟨fun e => by omega, fun e => by omega, fun e => by omega, fun _ d rest h => by
    unfold gS at h ⊢
    cases hd : (then' cI (then' cI (lone' cI))).dec rest with
    | none => rw [hd] at h; cases h
    | some y =>
      rw [hd] at h
      obtain ⟨h1, h2, h3, h4⟩ := normS_num y.1 y.2.1 y.2.2 h
      have he := (then' cI (then' cI (lone' cI))).law _ _ hd
      rw [he]
      refine ⟨fun x hx => ?_, fun x hx => ?_⟩
      · rcases mem3 hx with rfl | rfl | rfl
        · exact h1
        · exact h2
        · exact h3
      · cases hx
        exact h4⟩
theorem sqrt_law : KLaw 3 (gS (lone' cI) (fun b x => sqrtS b x)) :=
  ⟨fun e => by omega, fun e => by omega, fun e => by omega, fun _ d rest h => by
    unfold gS at h ⊢
    cases hd : (lone' cI).dec rest with
    | none => rw [hd] at h; cases h
    | some y =>
      rw [hd] at h
      obtain ⟨h1, h4⟩ := sqrtS_num y h
      have he := (lone' cI).law _ _ hd
      rw [he]
      refine ⟨fun x hx => ?_, fun x hx => ?_⟩
      · have : x = y := by simpa [lone', cI] using hx
        rw [this]
        exact h1
      · cases hx
        exact h4⟩
/-! ### The pairs -/
theorem goP {P : Program} {a b : Nat} (ha : ∀ (args : Array Value) (w : World), (callFunc a args).run P w = .ok (.enter a args) w) (hb : ∀ (args : Array Value) (w : World), (callFunc b args).run P w = .ok (.enter b args) w) (d : Bool) (args : Array Value) (w : World) : (callFunc (bif d then b else a) args).run P w = .ok (.enter (bif d then b else a) args) w := by
  cases d
  · exact ha args w
  · exact hb args w
def pAdd : Pr Tryz.prog := ⟨fun d => bif d then 64 else 134, goP (go_of Tryz.func134 (by kernel_rfl) (by kernel_rfl)) (go_of Tryz.func64 (by kernel_rfl) (by kernel_rfl)), [uI, uI], uI, 1, by decide +kernel, fun r => r, fun _ _ => rfl, pr_prim d2 (fun s b bad x w hw => by cases s; exact Add_any b bad x.1 x.2 w hw; exact rAdd_any b bad x.1 x.2 w hw) (fun x => by rw [addS_no (show tk true _ = false from rfl)]) (fun b x => addS_zb b _ _) (by decide) add_law add_bl⟩
def pSub : Pr Tryz.prog := ⟨fun d => bif d then 66 else 122, goP (go_of Tryz.func122 (by kernel_rfl) (by kernel_rfl)) (go_of Tryz.func66 (by kernel_rfl) (by kernel_rfl)), [uI, uI], uI, 6, by decide +kernel, fun r => r, fun _ _ => rfl, pr_prim (S := fun b x => subS b x.1 x.2) d2 (fun s b bad x w hw => by cases s; exact Sub_any b bad x.1 x.2 w hw; exact rSub_any b bad x.1 x.2 w hw) (fun x => by rw [subS_no (show tk true _ = false from rfl)]) (fun b x => subS_zb b _ _) (by decide) (six_law fun a b => subS_num a b) sub_bl⟩
def pMul : Pr Tryz.prog := ⟨fun d => bif d then 72 else 127, goP (go_of Tryz.func127 (by kernel_rfl) (by kernel_rfl)) (go_of Tryz.func72 (by kernel_rfl) (by kernel_rfl)), [uI, uI], uI, 2, by decide +kernel, fun r => r, fun _ _ => rfl, pr_prim d2 (fun s b bad x w hw => by cases s; exact Mul_any b bad x.1 x.2 w hw; exact rMul_any b bad x.1 x.2 w hw) (fun x => by rw [mulS_no (show tk true _ = false from rfl)]) (fun b x => mulS_zb b _ _) (by decide) mul_law mul_bl⟩
def pDiv : Pr Tryz.prog := ⟨fun d => bif d then 70 else 211, goP (go_of Tryz.func211 (by kernel_rfl) (by kernel_rfl)) (go_of Tryz.func70 (by kernel_rfl) (by kernel_rfl)), [uI, uI], uI, 3, by decide +kernel, fun r => r, fun _ _ => rfl, pr_prim (S := fun b x => divS b x.1 x.2) d2 (fun s b bad x w hw => by cases s; exact Div_any b bad x.1 x.2 w hw; exact rDiv_any b bad x.1 x.2 w hw) (fun x => by show (divS true x.1 x.2).2 = true; unfold divS; rw [partS_no (show tk true _ = false from rfl)]) (fun b x => divS_zb b _ _) (by decide) (two_law fun a b => divS_num a b) no_bl⟩
def pMod : Pr Tryz.prog := ⟨fun d => bif d then 75 else 212, goP (go_of Tryz.func212 (by kernel_rfl) (by kernel_rfl)) (go_of Tryz.func75 (by kernel_rfl) (by kernel_rfl)), [uI, uI], uI, 3, by decide +kernel, fun r => r, fun _ _ => rfl, pr_prim (S := fun b x => modS b x.1 x.2) d2 (fun s b bad x w hw => by cases s; exact Mod_any b bad x.1 x.2 w hw; exact rMod_any b bad x.1 x.2 w hw) (fun x => by rw [modS_no (show tk true _ = false from rfl)]) (fun b x => modS_zb b _ _) (by decide) (two_law fun a b => modS_num a b) no_bl⟩
def pPart : Pr Tryz.prog := ⟨fun d => bif d then 65 else 151, goP (go_of Tryz.func151 (by kernel_rfl) (by kernel_rfl)) (go_of Tryz.func65 (by kernel_rfl) (by kernel_rfl)), [uI, uI, uI], uI, 3, by decide +kernel, fun r => r, fun _ _ => rfl, pr_prim d3 (fun s b bad x w hw => by cases s; exact Part_any b bad x.1 x.2.1 x.2.2 w hw; exact rPart_any b bad x.1 x.2.1 x.2.2 w hw) (fun x => by rw [partS_no (show tk true _ = false from rfl)]) (fun b x => partS_zb b _ _ _) (by decide) part_law no_bl⟩
def pNorm : Pr Tryz.prog := ⟨fun d => bif d then 79 else 135, goP (go_of Tryz.func135 (by kernel_rfl) (by kernel_rfl)) (go_of Tryz.func79 (by kernel_rfl) (by kernel_rfl)), [uI, uI, uI], uI, 3, by decide +kernel, fun r => r, fun _ _ => rfl, pr_prim (S := fun b x => normS b x.1 x.2.1 x.2.2) d3 (fun s b bad x w hw => by cases s; exact Norm_any b bad x.1 x.2.1 x.2.2 w hw; exact rNorm_any b bad x.1 x.2.1 x.2.2 w hw) (fun x => by rw [normS_no (show tk true _ = false from rfl)]) (fun b x => normS_zb b _ _ _) (by decide) norm_law no_bl⟩
def pSqrt : Pr Tryz.prog := ⟨fun d => bif d then 71 else 210, goP (go_of Tryz.func210 (by kernel_rfl) (by kernel_rfl)) (go_of Tryz.func71 (by kernel_rfl) (by kernel_rfl)), [uI], uI, 3, by decide +kernel, fun r => r, fun _ _ => rfl, pr_prim (S := fun b x => sqrtS b x) d1 (fun s b bad x w hw => by cases s; exact Sqrt_any b bad x w hw; exact rSqrt_any b bad x w hw) (fun x => by rw [sqrtS_no (show tk true _ = false from rfl)]) (fun b x => sqrtS_zb b _) (by decide) sqrt_law no_bl⟩
/-! ### Fail -/
theorem fail_ok (b : Bool) : CallsOk Tryz.prog 121 b [] undef true := ⟨fun u hu => (by cases hu), rfl, fun k w _ _ hw => Fail_any k b w hw⟩
theorem rfail_ok (b : Bool) : CallsOk Tryz.prog 68 b [] undef true := ⟨fun u hu => (by cases hu), rfl, fun k w _ _ hw => rFail_any k b w hw⟩
end Go.Proofs.YtoadcnhcfodkgaaGreatDoor.Nx
