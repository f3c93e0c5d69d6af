/-
A part.
A part.
A part.
A part.
A part.
A part.
-/
import Derived.Test.YtbophanlmkbfeaaGreatDoorHC19
import Derived.Test.YtbophanlmkbfeaaGreatDoorHC10
import Derived.Test.YtbophanlmkbfeaaGreatDoorHC20
import Derived.Test.YtbophanlmkbfeaaGreatDoorHC21
namespace Go.Proofs.YtbophanlmkbfeaaGreatDoor
open Go.RowKit
def t7V (x : Tup 7) : V7 := (x.1, x.2.1, x.2.2.1, x.2.2.2.1, x.2.2.2.2.1, x.2.2.2.2.2.1, x.2.2.2.2.2.2.1)
abbrev kOrd : Dc (Tup 9 × Int) := two' (cT 9) cI
def ozT (q c e : Int) : Tup 9 × Int := ((q, c, 0, 0, 0, 0, 0, 0, 0, ()), e)
def bI (b : UInt8) : Int := IntKind.i64.wrap ((b.toNat : Nat) : Int)
theorem bI_is (b : UInt8) : bI b = (b.toNat : Nat) := by
 have := b.toNat_lt
 unfold bI
 rw [IntKind.wrap_i64]
 omega
def osizCt : Ct Tryz.prog := pureCt Tryz.prog 149 (lone' cI) sizeS cI (go_of Tryz.func149 (by kernel_rfl) (by kernel_rfl)) (fun x w _ => Calls.mono (sizeOf_any x w) (by rintro e w' ⟨rfl, rfl⟩; exact ⟨rfl, Below.refl _ _⟩))
def orefCt : Ct Tryz.prog := pureCt Tryz.prog 150 (then' (cT 9) (lone' cI)) (fun x => ozT x.1.1 0 x.2) kOrd (go_of Tryz.func150 (by kernel_rfl) (by kernel_rfl)) (fun x w _ => refused_any x.1.1 x.1.2.1 (t7V x.1.2.2) x.2 w)
def orgtCt : Ct Tryz.prog := pureCt Tryz.prog 89 (lone' (cT 7)) (fun x => oRightC (t7V x)) cB (go_of Tryz.func89 (by kernel_rfl) (by kernel_rfl)) (fun x w _ => oRightC_any (t7V x) w)
def elT (s : ByteArray) : Tup 7 := (onumS s 0, onumS s 8, onumS s 16, onumS s 24, onumS s 32, onumS s 40, onumS s 48, ())
def oelsCt : Ct Tryz.prog := predCt Tryz.prog 151 (lone' cS) (fun s K => s.size = 56 ∧ K ((cT 7).enc (elT s))) (fun _ _ _ hK hs => ⟨hs.1, hK _ hs.2⟩) (go_of Tryz.func151 (by kernel_rfl) (by kernel_rfl))
 (fun s w _ K hs => Calls.mono (elements_any s w hs.1) (by rintro e w' ⟨rfl, hb⟩; exact ⟨_, rfl, rfl, hs.2, hb⟩))
def oxE (q c : Int) (s : ByteArray) (Post : Value → Prop) : Prop :=
 (0 ≤ (2 : Int) ∧ (2 : Int) ≤ (s.size : Int)) ∧ (s.extract (2 : Int).toNat s.size).size = 56 ∧ vif (!oRightC (t7V (elT (s.extract (2 : Int).toNat s.size)))) (PJ kOrd Post (ozT q 0 3)) (PJ kOrd Post ((q, c, elT (s.extract (2 : Int).toNat s.size)), 0))
def oxB (k q c : Int) (s : ByteArray) (Post : Value → Prop) : Prop :=
 vif (decide ((s.size : Int) < 2)) (PJ kOrd Post (ozT 0 0 1)) (vif (!decide (k = 16)) (PJ kOrd Post (ozT q 0 1)) (vif (decide (sizeS c = 0)) (PJ kOrd Post (ozT q 0 2)) (vif (!decide ((s.size : Int) = sizeS c)) (PJ kOrd Post (ozT q 0 1)) (vif (!decide (c = 3)) (PJ kOrd Post (ozT q c 0)) (oxE q c s Post)))))
abbrev oxT : List (Ct Tryz.prog) := [osizCt, orefCt, orgtCt, oelsCt]
def oxO : Ov := fun id => match id with
 | 13 => some (strBy Tryz.prog oxT)
 | _ => none
set_option maxRecDepth 100000 in
theorem ox_ov (w : World) : OvOk Tryz.prog oxO [] w [] [] (bodyOf Tryz.prog 85) := by
 refine ovOk_by (ns := [(13, opsOf Tryz.prog 85 13, false)]) (by kernel_rfl) ?_
 intro r hr
 rcases List.mem_cons.1 hr with rfl | hr
 ·intro R hR K Q bl vt m a w h r hK
  cases hR
  exact strBy_sound h r hK
 ·cases hr
set_option maxRecDepth 100000 in
theorem ox_run (k : Int) (b0 b1 : UInt8) (rest : List UInt8) (y : Tup 9 × Int) (w : World) (hw : GW w) (h : ∀ Post : Value → Prop, PJ kOrd Post y → oxB k (bI b0) (bI b1) ⟨⟨b0 :: b1 :: rest⟩⟩ Post) : Calls Tryz.prog 85 ((lone' cFra).enc (k, ⟨⟨b0 :: b1 :: rest⟩⟩)).toArray w fun e w' => e = .returned (kOrd.enc y) ∧ Below w.heap.size w w' := by
 refine pure_atO (d := lone' cFra) (k := kOrd) (x := (k, ⟨⟨b0 :: b1 :: rest⟩⟩)) (y := y) (tbl := oxT) (dirty := fun _ => []) (n := 4) (ov := oxO) xmixA (by kernel_rfl) (by kernel_rfl) ox_ov ?_ w hw
 exact Eq.mpr (β := oxB k (bI b0) (bI b1) ⟨⟨b0 :: b1 :: rest⟩⟩ (fun v => v = kOrd.enc y)) (by kernel_rfl) (h _ rfl)
set_option maxRecDepth 100000 in
theorem ox_short (k : Int) (s : ByteArray) (h : s = ⟨⟨[]⟩⟩ ∨ ∃ b, s = ⟨⟨[b]⟩⟩) (w : World) (hw : GW w) : Calls Tryz.prog 85 ((lone' cFra).enc (k, s)).toArray w fun e w' => e = .returned (kOrd.enc (ozT 0 0 1)) ∧ Below w.heap.size w w' := by
 rcases h with rfl | ⟨b, rfl⟩
 ·refine pure_at (d := lone' cFra) (k := kOrd) (x := (k, ⟨⟨[]⟩⟩)) (y := ozT 0 0 1) (tbl := [osizCt, orefCt, orgtCt, oelsCt]) (dirty := fun _ => []) (n := 4) xmixA Tryz.func85 rfl (fun Post hP => ?_) w hw
  exact Eq.mpr (β := PJ kOrd Post (ozT 0 0 1)) (by kernel_rfl) hP
 ·refine pure_at (d := lone' cFra) (k := kOrd) (x := (k, ⟨⟨[b]⟩⟩)) (y := ozT 0 0 1) (tbl := [osizCt, orefCt, orgtCt, oelsCt]) (dirty := fun _ => []) (n := 4) xmixA Tryz.func85 rfl (fun Post hP => ?_) w hw
  exact Eq.mpr (β := PJ kOrd Post (ozT 0 0 1)) (by kernel_rfl) hP
set_option maxRecDepth 100000 in
theorem oread_any (k : Int) (s : ByteArray) (w : World) (hw : GW w) :
    Calls Tryz.prog 85 #[.agg #[.int .i64 k, .string s]] w fun e w' => e = .returned (.tuple #[.agg #[.int .i64 (ordR k s).1.1, .int .i64 (ordR k s).1.2.1, .int .i64 (ordR k s).1.2.2.1, .int .i64 (ordR k s).1.2.2.2.1, .int .i64 (ordR k s).1.2.2.2.2.1, .int .i64 (ordR k s).1.2.2.2.2.2.1, .int .i64 (ordR k s).1.2.2.2.2.2.2.1, .int .i64 (ordR k s).1.2.2.2.2.2.2.2.1, .int .i64 (ordR k s).1.2.2.2.2.2.2.2.2], .int .i64 (ordR k s).2]) ∧ Below w.heap.size w w' := by
 obtain ⟨⟨l⟩⟩ := s
 match l with
 | [] => exact ox_short k _ (.inl rfl) w hw
 | [b] => exact ox_short k _ (.inr ⟨b, rfl⟩) w hw
 | b0 :: b1 :: rest =>
  refine ox_run k b0 b1 rest (((ordR k ⟨⟨b0 :: b1 :: rest⟩⟩).1.1, (ordR k ⟨⟨b0 :: b1 :: rest⟩⟩).1.2.1, (ordR k ⟨⟨b0 :: b1 :: rest⟩⟩).1.2.2.1, (ordR k ⟨⟨b0 :: b1 :: rest⟩⟩).1.2.2.2.1, (ordR k ⟨⟨b0 :: b1 :: rest⟩⟩).1.2.2.2.2.1, (ordR k ⟨⟨b0 :: b1 :: rest⟩⟩).1.2.2.2.2.2.1, (ordR k ⟨⟨b0 :: b1 :: rest⟩⟩).1.2.2.2.2.2.2.1, (ordR k ⟨⟨b0 :: b1 :: rest⟩⟩).1.2.2.2.2.2.2.2.1, (ordR k ⟨⟨b0 :: b1 :: rest⟩⟩).1.2.2.2.2.2.2.2.2, ()), (ordR k ⟨⟨b0 :: b1 :: rest⟩⟩).2) w hw (fun Post hP => ?_)
  have e0 : bI b0 = (bt ⟨⟨b0 :: b1 :: rest⟩⟩ 0 : Nat) := bI_is b0
  have e1 : bI b1 = (bt ⟨⟨b0 :: b1 :: rest⟩⟩ 1 : Nat) := bI_is b1
  have hs : 2 ≤ (⟨⟨b0 :: b1 :: rest⟩⟩ : ByteArray).size := by show 2 ≤ rest.length + 1 + 1; omega
  generalize (⟨⟨b0 :: b1 :: rest⟩⟩ : ByteArray) = s at *
  have hE : elT (s.extract 2 s.size) = (onumS s 2, onumS s 10, onumS s 18, onumS s 26, onumS s 34, onumS s 42, onumS s 50, ()) := by
   unfold elT
   simp only [numS_tail]
   rfl
  rw [e0, e1]
  unfold oxB
  unfold ordR at hP
  rw [decide_eq_false (show ¬ (s.size : Int) < 2 by omega)]
  rw [if_neg (show ¬ s.size < 2 by omega)] at hP
  by_cases hk : k = 16
  ·rw [decide_eq_true hk]
   rw [if_neg (show ¬ k ≠ 16 by omega)] at hP
   by_cases hz : sizeS (bt s 1 : Nat) = 0
   ·rw [decide_eq_true hz]; rw [if_pos hz] at hP; exact hP
   rw [decide_eq_false hz]; rw [if_neg hz] at hP
   by_cases hl : (s.size : Int) = sizeS (bt s 1 : Nat)
   ·rw [decide_eq_true hl]; rw [if_neg (fun z => z hl)] at hP
    by_cases h3 : ((bt s 1 : Nat) : Int) = 3
    ·rw [decide_eq_true h3]; rw [if_neg (fun z => z h3)] at hP
     have hs58 : s.size = 58 := by rw [h3] at hl; have : sizeS 3 = 58 := rfl; omega
     show oxE _ _ s Post
     unfold oxE
     have e2 : ((2 : Int).toNat) = 2 := rfl
     rw [e2, hE, h3]
     refine ⟨⟨by omega, by omega⟩, by rw [ByteArray.size_extract]; omega, ?_⟩
     show vif (!oRightC (ordE s)) (PJ kOrd Post (ozT (bt s 0 : Nat) 0 3)) (PJ kOrd Post (((bt s 0 : Nat), 3, onumS s 2, onumS s 10, onumS s 18, onumS s 26, onumS s 34, onumS s 42, onumS s 50, ()), 0))
     cases hr : oRightC (ordE s)
     ·rw [hr] at hP; exact hP
     ·rw [hr] at hP; exact hP
    ·rw [decide_eq_false h3]; rw [if_pos h3] at hP; exact hP
   ·rw [decide_eq_false hl]; rw [if_pos hl] at hP; exact hP
  ·rw [decide_eq_false hk]; rw [if_pos hk] at hP; exact hP
end Go.Proofs.YtbophanlmkbfeaaGreatDoor
namespace Go.Proofs.YtbophanlmkbfeaaGreatDoor
open Go.RowKit
def az (x : Int) : Int := if x < 0 then -x else x
theorem az_n (x : Int) : 0 ≤ az x := by unfold az; split <;> omega
theorem az_hi (x : Int) : x ≤ az x := by unfold az; split <;> omega
theorem az_lo (x : Int) : -az x ≤ x := by unfold az; split <;> omega
theorem az_le {x K : Int} (h1 : -K ≤ x) (h2 : x ≤ K) : az x ≤ K := by unfold az; split <;> omega
theorem az_sub (x y : Int) : az (x - y) ≤ az x + az y := by unfold az; split <;> split <;> split <;> omega
theorem az_ab {x K : Int} (h : az x ≤ K) : Ab x K := ⟨by have := az_lo x; omega, by have := az_hi x; omega⟩
theorem az_mul (x y : Int) : Ab (x * y) (az x * az y) := (az_ab (Int.le_refl (az x))).mul (az_ab (Int.le_refl (az y)))
def sm (f : Nat → Int) : Nat → Int
 | 0 => 0
 | n + 1 => sm f n + f n
theorem sm_le {f g : Nat → Int} : ∀ {n : Nat}, (∀ k, k < n → f k ≤ g k) → sm f n ≤ sm g n
 | 0, _ => Int.le_refl _
 | n + 1, h => Int.add_le_add (sm_le fun k hk => h k (Nat.lt_succ_of_lt hk)) (h n (Nat.lt_succ_self n))
theorem sm_eq {f g : Nat → Int} {n : Nat} (h : ∀ k, k < n → f k = g k) : sm f n = sm g n := Int.le_antisymm (sm_le fun k hk => Int.le_of_eq (h k hk)) (sm_le fun k hk => Int.le_of_eq (h k hk).symm)
theorem sm_add (f g : Nat → Int) : ∀ n, sm (fun k => f k + g k) n = sm f n + sm g n
 | 0 => rfl
 | n + 1 => by show sm (fun k => f k + g k) n + (f n + g n) = sm f n + f n + (sm g n + g n); rw [sm_add f g n]; omega
theorem sm_mul (c : Int) (f : Nat → Int) : ∀ n, sm (fun k => c * f k) n = c * sm f n
 | 0 => by simp [sm]
 | n + 1 => by show sm (fun k => c * f k) n + c * f n = c * (sm f n + f n); rw [sm_mul c f n, Int.mul_add]
theorem sm_const (c : Int) : ∀ n : Nat, sm (fun _ => c) n = n * c
 | 0 => by simp [sm]
 | n + 1 => by show sm (fun _ => c) n + c = _; rw [sm_const c n]; grind
theorem sm_zero {f : Nat → Int} {n : Nat} (h : ∀ k, k < n → f k = 0) : sm f n = 0 := by
 rw [sm_eq h, sm_const]; simp
theorem sm_one (j : Nat) (c : Int) : ∀ {n : Nat}, j < n → sm (fun k => if k = j then c else 0) n = c
 | n + 1, h => by
  show sm (fun k => if k = j then c else 0) n + (if n = j then c else 0) = c
  by_cases e : n = j
  ·rw [if_pos e, sm_zero (fun k hk => if_neg (by omega))]; omega
  ·rw [if_neg e, sm_one j c (by omega)]; omega
theorem sm_pos {f : Nat → Int} {n : Nat} (h : ∀ k, k < n → 0 ≤ f k) : 0 ≤ sm f n := by
 have := sm_le h
 rw [sm_const] at this
 simpa using this
def off (A : Nat → Nat → Int) (j a : Nat) : Nat → Int := fun b => if j ≤ b ∧ b ≠ a then az (A a b) else 0
theorem off_n (A : Nat → Nat → Int) (j a b : Nat) : 0 ≤ off A j a b := by unfold off; split; exact az_n _; exact Int.le_refl _
def Dom (A : Nat → Nat → Int) (j N : Nat) (G : Int) : Prop := ∀ a, j ≤ a → a < N → sm (off A j a) N + G ≤ A a a
theorem Dom.diag {A : Nat → Nat → Int} {j N a : Nat} {G : Int} (D : Dom A j N G) (ha : j ≤ a) (ha' : a < N) : G ≤ A a a := by
 have t := sm_pos (f := off A j a) (n := N) (fun k _ => off_n A j a k)
 have d := D a ha ha'
 omega
theorem Dom.step {A p : Nat → Nat → Int} {j N : Nat} {G : Int} (D : Dom A j N G) (hG : 1 ≤ G) (hN : N ≤ 6) (hj : j < N) (sym : ∀ a, j < a → a < N → A a j = A j a)
    (hp : ∀ a b, j < a → a < N → j < b → b < N → Ab (p a b * A j j - A a j * A b j) (4 * A j j)) : Dom (fun a b => A a b - p a b) (j + 1) N (G - 24) := by
 intro a ha ha'
 have P0 : 1 ≤ A j j := Int.le_trans hG (D.diag (Nat.le_refl _) hj)
 -- the pivot's column
 have col : sm (fun b => if j + 1 ≤ b then az (A b j) else 0) N ≤ A j j := by
  have e : sm (fun b => if j + 1 ≤ b then az (A b j) else 0) N = sm (off A j j) N := sm_eq fun b hb => by
   unfold off
   by_cases c : j + 1 ≤ b
   ·rw [if_pos c, if_pos ⟨by omega, by omega⟩, sym b c hb]
   ·rw [if_neg c, if_neg (by omega)]
  have := D j (Nat.le_refl _) hj
  omega
 -- what is taken away from the row
 have row : sm (fun b => if j + 1 ≤ b then az (p a b) else 0) N ≤ az (A a j) + 24 := by
  have m : sm (fun b => A j j * (if j + 1 ≤ b then az (p a b) else 0)) N ≤ sm (fun b => az (A a j) * (if j + 1 ≤ b then az (A b j) else 0) + 4 * A j j) N := sm_le fun b hb => by
   show A j j * (if j + 1 ≤ b then az (p a b) else 0) ≤ az (A a j) * (if j + 1 ≤ b then az (A b j) else 0) + 4 * A j j
   by_cases c : j + 1 ≤ b
   ·rw [if_pos c, if_pos c]
    have h := hp a b ha ha' c hb
    have k := az_mul (A a j) (A b j)
    have := h.lo; have := h.hi; have := k.lo; have := k.hi
    have q : A j j * az (p a b) = az (p a b * A j j) := by
     unfold az
     by_cases z : p a b < 0
     ·rw [if_pos z, if_pos (by have := Int.mul_le_mul_of_nonneg_right (show p a b ≤ -1 by omega) (show 0 ≤ A j j by omega); omega)]; grind
     ·rw [if_neg z, if_neg (by have := Int.mul_nonneg (show 0 ≤ p a b by omega) (show 0 ≤ A j j by omega); omega)]; grind
    rw [q]
    exact az_le (by omega) (by omega)
   ·rw [if_neg c, if_neg c]; omega
  rw [sm_mul, sm_add, sm_mul, sm_const] at m
  have m2 : az (A a j) * sm (fun b => if j + 1 ≤ b then az (A b j) else 0) N ≤ az (A a j) * A j j := Int.mul_le_mul_of_nonneg_left col (az_n _)
  have m3 : (N : Int) * (4 * A j j) ≤ 6 * (4 * A j j) := Int.mul_le_mul_of_nonneg_right (by omega) (by omega)
  apply Classical.byContradiction
  intro c
  have m4 : A j j * (az (A a j) + 25) ≤ A j j * sm (fun b => if j + 1 ≤ b then az (p a b) else 0) N := Int.mul_le_mul_of_nonneg_left (by omega) (by omega)
  have e4 : A j j * (az (A a j) + 25) = az (A a j) * A j j + 25 * A j j := by grind
  omega
 -- the row, with its pivot's place
 have e1 : sm (off A j a) N = sm (off A (j + 1) a) N + az (A a j) := by
  rw [← sm_one (n := N) j (az (A a j)) hj, ← sm_add]
  refine sm_eq fun b hb => ?_
  unfold off
  by_cases c : b = j
  ·subst c; rw [if_pos ⟨Nat.le_refl _, by omega⟩, if_neg (by omega), if_pos rfl]; omega
  ·rw [if_neg c]
   by_cases c2 : j ≤ b ∧ b ≠ a
   ·rw [if_pos c2, if_pos ⟨by omega, c2.2⟩]; omega
   ·rw [if_neg c2, if_neg (by omega)]; omega
 have e2 : sm (fun b => if j + 1 ≤ b then az (p a b) else 0) N = sm (fun b => if j + 1 ≤ b ∧ b ≠ a then az (p a b) else 0) N + az (p a a) := by
  rw [← sm_one (n := N) a (az (p a a)) ha', ← sm_add]
  refine sm_eq fun b hb => ?_
  show (if j + 1 ≤ b then az (p a b) else 0) = (if j + 1 ≤ b ∧ b ≠ a then az (p a b) else 0) + (if b = a then az (p a a) else 0)
  by_cases c : b = a
  ·subst c; rw [if_pos ha, if_neg (by omega), if_pos rfl]; omega
  ·rw [if_neg c]
   by_cases c2 : j + 1 ≤ b
   ·rw [if_pos c2, if_pos ⟨c2, c⟩]; omega
   ·rw [if_neg c2, if_neg (by omega)]; omega
 have e3 : sm (off (fun a b => A a b - p a b) (j + 1) a) N ≤ sm (off A (j + 1) a) N + sm (fun b => if j + 1 ≤ b ∧ b ≠ a then az (p a b) else 0) N := by
  rw [← sm_add]
  refine sm_le fun b hb => ?_
  unfold off
  by_cases c : j + 1 ≤ b ∧ b ≠ a
  ·rw [if_pos c, if_pos c, if_pos c]; exact az_sub _ _
  ·rw [if_neg c, if_neg c, if_neg c]; omega
 have d := D a (by omega) ha'
 have := az_hi (p a a)
 show sm (off (fun a b => A a b - p a b) (j + 1) a) N + (G - 24) ≤ A a a - p a a
 omega
end Go.Proofs.YtbophanlmkbfeaaGreatDoor
namespace Go.Proofs.YtbophanlmkbfeaaGreatDoor
abbrev Iv := Int × Int
structure InK (k : Int) (X : Iv) (x : Int) : Prop where
 lo : X.1 * k ≤ x
 hi : x ≤ X.2 * k
abbrev In (X : Iv) (x : Int) : Prop := InK 1 X x
theorem in_mk {X : Iv} {x : Int} (h1 : X.1 ≤ x) (h2 : x ≤ X.2) : In X x := ⟨by omega, by omega⟩
def fl (a : Int) : Int := a / 1099511627776
def ce (a : Int) : Int := -((-a) / 1099511627776)
theorem fl_le (a : Int) : fl a * 1099511627776 ≤ a := by unfold fl; omega
theorem le_ce (a : Int) : a ≤ ce a * 1099511627776 := by unfold ce; omega
def min4 (a b c d : Int) : Int := min (min a b) (min c d)
def max4 (a b c d : Int) : Int := max (max a b) (max c d)
def imul (X Y : Iv) : Iv := (fl (min4 (X.1 * Y.1) (X.1 * Y.2) (X.2 * Y.1) (X.2 * Y.2)), ce (max4 (X.1 * Y.1) (X.1 * Y.2) (X.2 * Y.1) (X.2 * Y.2)))
def iadd (X Y : Iv) : Iv := (X.1 + Y.1, X.2 + Y.2)
def isub (X Y : Iv) : Iv := (X.1 - Y.2, X.2 - Y.1)
def pt (a : Int) : Iv := (a, a)
def ims (c : Int) (X : Iv) : Iv := if 0 ≤ c then (c * X.1, c * X.2) else (c * X.2, c * X.1)
def mag (X : Iv) : Int := max (-X.1) X.2
theorem mag_ab {X : Iv} {x : Int} (h : In X x) {K : Int} (hK : mag X ≤ K) : Ab x K := by
 unfold mag at hK
 have := h.lo; have := h.hi
 exact ⟨by omega, by omega⟩
theorem pt_in (a : Int) : In (pt a) a := ⟨by show a * 1 ≤ a; omega, by show a ≤ a * 1; omega⟩
theorem InK.add {k : Int} {X Y : Iv} {x y : Int} (h : InK k X x) (g : InK k Y y) : InK k (iadd X Y) (x + y) := by
 have := h.lo; have := h.hi; have := g.lo; have := g.hi
 constructor
 ·show (X.1 + Y.1) * k ≤ x + y; rw [Int.add_mul]; omega
 ·show x + y ≤ (X.2 + Y.2) * k; rw [Int.add_mul]; omega
theorem InK.sub {k : Int} {X Y : Iv} {x y : Int} (h : InK k X x) (g : InK k Y y) : InK k (isub X Y) (x - y) := by
 have := h.lo; have := h.hi; have := g.lo; have := g.hi
 constructor
 ·show (X.1 - Y.2) * k ≤ x - y; rw [Int.sub_mul]; omega
 ·show x - y ≤ (X.2 - Y.1) * k; rw [Int.sub_mul]; omega
theorem InK.zero (k : Int) : InK k (pt 0) 0 := ⟨by show 0 * k ≤ 0; omega, by show 0 ≤ 0 * k; omega⟩
theorem InK.ims {k : Int} {X : Iv} {x : Int} (h : InK k X x) (c : Int) : InK k (ims c X) (c * x) := by
 have l := h.lo; have u := h.hi
 unfold Go.Proofs.YtbophanlmkbfeaaGreatDoor.ims
 by_cases c0 : 0 ≤ c
 ·rw [if_pos c0]
  have a := Int.mul_le_mul_of_nonneg_left l c0
  have b := Int.mul_le_mul_of_nonneg_left u c0
  exact ⟨by show c * X.1 * k ≤ c * x; rw [Int.mul_assoc]; exact a, by show c * x ≤ c * X.2 * k; rw [Int.mul_assoc]; exact b⟩
 ·rw [if_neg c0]
  have a := Int.mul_le_mul_of_nonpos_left (show c ≤ 0 by omega) l
  have b := Int.mul_le_mul_of_nonpos_left (show c ≤ 0 by omega) u
  exact ⟨by show c * X.2 * k ≤ c * x; rw [Int.mul_assoc]; exact b, by show c * x ≤ c * X.1 * k; rw [Int.mul_assoc]; exact a⟩
theorem lin_le {a b x y : Int} (h1 : a ≤ x) (h2 : x ≤ b) : x * y ≤ max (a * y) (b * y) ∧ min (a * y) (b * y) ≤ x * y := by
 by_cases h : 0 ≤ y
 ·have p := Int.mul_le_mul_of_nonneg_right h1 h
  have q := Int.mul_le_mul_of_nonneg_right h2 h
  exact ⟨by omega, by omega⟩
 ·have p := Int.mul_le_mul_of_nonpos_right h1 (show y ≤ 0 by omega)
  have q := Int.mul_le_mul_of_nonpos_right h2 (show y ≤ 0 by omega)
  exact ⟨by omega, by omega⟩
theorem box_mul {a b c d x y : Int} (h1 : a ≤ x) (h2 : x ≤ b) (h3 : c ≤ y) (h4 : y ≤ d) : min4 (a * c) (a * d) (b * c) (b * d) ≤ x * y ∧ x * y ≤ max4 (a * c) (a * d) (b * c) (b * d) := by
 have p := lin_le (y := y) h1 h2
 have q := lin_le (y := a) h3 h4
 have r := lin_le (y := b) h3 h4
 rw [Int.mul_comm y a, Int.mul_comm c a, Int.mul_comm d a] at q
 rw [Int.mul_comm y b, Int.mul_comm c b, Int.mul_comm d b] at r
 unfold min4 max4
 exact ⟨by omega, by omega⟩
theorem min4_mul {k : Int} (k0 : 0 ≤ k) (a b c d : Int) : min4 a b c d * k ≤ min4 (a * k) (b * k) (c * k) (d * k) := by
 have h (x : Int) (hx : min4 a b c d ≤ x) := Int.mul_le_mul_of_nonneg_right hx k0
 have h1 := h a (by unfold min4; omega); have h2 := h b (by unfold min4; omega); have h3 := h c (by unfold min4; omega); have h4 := h d (by unfold min4; omega)
 generalize min4 a b c d * k = m at *
 unfold min4
 omega
theorem max4_mul {k : Int} (k0 : 0 ≤ k) (a b c d : Int) : max4 (a * k) (b * k) (c * k) (d * k) ≤ max4 a b c d * k := by
 have h (x : Int) (hx : x ≤ max4 a b c d) := Int.mul_le_mul_of_nonneg_right hx k0
 have h1 := h a (by unfold max4; omega); have h2 := h b (by unfold max4; omega); have h3 := h c (by unfold max4; omega); have h4 := h d (by unfold max4; omega)
 generalize max4 a b c d * k = m at *
 unfold max4
 omega
theorem InK.mul {k l : Int} (k0 : 0 ≤ k) (l0 : 0 ≤ l) {X Y : Iv} {x y : Int} (h : InK k X x) (g : InK l Y y) : InK (k * l * 1099511627776) (imul X Y) (x * y) := by
 have b := box_mul h.lo h.hi g.lo g.hi
 have e (a c : Int) : a * k * (c * l) = a * c * (k * l) := by grind
 rw [e, e, e, e] at b
 have kl := Int.mul_nonneg k0 l0
 have p := min4_mul kl (X.1 * Y.1) (X.1 * Y.2) (X.2 * Y.1) (X.2 * Y.2)
 have q := max4_mul kl (X.1 * Y.1) (X.1 * Y.2) (X.2 * Y.1) (X.2 * Y.2)
 have f := Int.mul_le_mul_of_nonneg_right (fl_le (min4 (X.1 * Y.1) (X.1 * Y.2) (X.2 * Y.1) (X.2 * Y.2))) kl
 have c := Int.mul_le_mul_of_nonneg_right (le_ce (max4 (X.1 * Y.1) (X.1 * Y.2) (X.2 * Y.1) (X.2 * Y.2))) kl
 constructor
 ·show fl _ * (k * l * 1099511627776) ≤ x * y
  rw [show fl (min4 (X.1 * Y.1) (X.1 * Y.2) (X.2 * Y.1) (X.2 * Y.2)) * (k * l * 1099511627776) = fl (min4 (X.1 * Y.1) (X.1 * Y.2) (X.2 * Y.1) (X.2 * Y.2)) * 1099511627776 * (k * l) by grind]
  omega
 ·show x * y ≤ ce _ * (k * l * 1099511627776)
  rw [show ce (max4 (X.1 * Y.1) (X.1 * Y.2) (X.2 * Y.1) (X.2 * Y.2)) * (k * l * 1099511627776) = ce (max4 (X.1 * Y.1) (X.1 * Y.2) (X.2 * Y.1) (X.2 * Y.2)) * 1099511627776 * (k * l) by grind]
  omega
theorem round_in {X Y : Iv} {x y m : Int} (h : In X x) (g : In Y y) (r : Ab (2 * (m * 1099511627776 - x * y)) 1099511627776) : In (imul X Y) m := by
 have p := InK.mul (by decide) (by decide) h g
 have := p.lo; have := p.hi; have := r.lo; have := r.hi
 exact in_mk (by omega) (by omega)
def iacc (F : Nat → Iv) : Nat → Iv
 | 0 => pt 0
 | n + 1 => iadd (iacc F n) (F n)
end Go.Proofs.YtbophanlmkbfeaaGreatDoor
namespace Go.Proofs.YtbophanlmkbfeaaGreatDoor
def fA : Nat → Nat → Int
 | 2, 0 => 549755813888
 | 3, 0 => 733007751851
 | 3, 1 => 673310613577
 | 4, 0 => 824633720832
 | 4, 1 => 802969761030
 | 4, 2 => 709731703890
 | 5, 0 => 879609302221
 | 5, 1 => 869240264403
 | 5, 2 => 831152665920
 | 5, 3 => 727258582680
 | 6, 0 => 916259689813
 | 6, 1 => 910482127710
 | 6, 2 => 890706219313
 | 6, 3 => 846404445698
 | 6, 4 => 737574822528
 | _, _ => 0
def fB : Nat → Nat → Int
 | 1, 0 => 1099511627776
 | 2, 0 => 1649267441664
 | 2, 1 => 1904410002822
 | 3, 0 => 1832519379627
 | 3, 1 => 1943680319985
 | 3, 2 => 2458582741759
 | 4, 0 => 1924145348608
 | 4, 1 => 1987248770891
 | 4, 2 => 2221811669958
 | 4, 3 => 2909034330719
 | 5, 0 => 1979120929997
 | 5, 1 => 2019931840731
 | 5, 2 => 2159397969329
 | 5, 3 => 2473901162496
 | 5, 4 => 3298534883328
 | 6, 0 => 2015771317589
 | 6, 1 => 2044365246745
 | 6, 2 => 2138048351983
 | 6, 3 => 2327612225670
 | 6, 4 => 2704441015935
 | 6, 5 => 3646667521967
 | _, _ => 0
def fJ : Nat → Int
 | 2 => 952205001410
 | 3 => 1003712201286
 | 4 => 1028498950977
 | 5 => 1043088317283
 | 6 => 1052702237726
 | _ => 0
theorem fA_bd (n m : Nat) : Ab (fA n m) 4398046511104 := by unfold fA; split <;> exact ⟨by decide, by decide⟩
theorem fB_bd (n m : Nat) : Ab (fB n m) 4398046511104 := by unfold fB; split <;> exact ⟨by decide, by decide⟩
theorem fJ_bd (n : Nat) : Ab (fJ n) 4398046511104 := by unfold fJ; split <;> exact ⟨by decide, by decide⟩
def entS (bad : Bool) (c s b a : Int) (x y : V3) : V3 × Bool :=
 let r1 := mulS bad c x.1; let r2 := mulS r1.2 b r1.1; let r3 := mulS r2.2 a y.1; let r4 := subS r3.2 r2.1 r3.1
 let r5 := mulS r4.2 c x.2.1; let r6 := mulS r5.2 s x.1; let r7 := subS r6.2 r5.1 r6.1; let r8 := mulS r7.2 b r7.1; let r9 := mulS r8.2 a y.2.1; let r10 := subS r9.2 r8.1 r9.1
 let r11 := mulS r10.2 c x.2.2; let r12 := mulS r11.2 b r11.1; let r13 := mulS r12.2 a y.2.2; let r14 := subS r13.2 r12.1 r13.1
 ((r4.1, r10.1, r14.1), r14.2)
def diaS (bad : Bool) (c s j : Int) (x : V3) : V3 × Bool :=
 let r1 := mulS bad s x.1; let r2 := mulS r1.2 j r1.1
 let r3 := mulS r2.2 s x.2.1; let r4 := mulS r3.2 c x.1; let r5 := addS r4.2 r3.1 r4.1; let r6 := mulS r5.2 j r5.1
 let r7 := mulS r6.2 s x.2.2; let r8 := mulS r7.2 j r7.1
 ((r2.1, r6.1, r8.1), r8.2)
abbrev T3 := Iv × Iv × Iv
structure In3 (X : T3) (x : V3) : Prop where
 p : In X.1 x.1
 d : In X.2.1 x.2.1
 q : In X.2.2 x.2.2
def entI (C S : Iv) (b a : Int) (x y : T3) : T3 :=
 (isub (imul (pt b) (imul C x.1)) (imul (pt a) y.1), isub (imul (pt b) (isub (imul C x.2.1) (imul S x.1))) (imul (pt a) y.2.1), isub (imul (pt b) (imul C x.2.2)) (imul (pt a) y.2.2))
def diaI (C S : Iv) (j : Int) (x : T3) : T3 := (imul (pt j) (imul S x.1), imul (pt j) (iadd (imul S x.2.1) (imul C x.1)), imul (pt j) (imul S x.2.2))
structure Sm3 (x : V3) : Prop where
 p : Ab x.1 17592186044416
 d : Ab x.2.1 17592186044416
 q : Ab x.2.2 17592186044416
theorem ent_at {c s b a : Int} {x y : V3} {C S : Iv} {X Y : T3} (hc : Ab c 2199023255552) (hs : Ab s 2199023255552) (hb : Ab b 4398046511104) (ha : Ab a 4398046511104) (sx : Sm3 x) (sy : Sm3 y) (iC : In C c) (iS : In S s) (ix : In3 X x) (iy : In3 Y y) :
    ∃ z, entS false c s b a x y = (z, false) ∧ In3 (entI C S b a X Y) z := by
 obtain ⟨v1, h1, q1, b1⟩ := mul_x (B := 35184372088833) hc sx.p (by decide) (by decide) (by decide) (by decide)
 obtain ⟨v2, h2, q2, b2⟩ := mul_x (B := 140737488355333) hb b1 (by decide) (by decide) (by decide) (by decide)
 obtain ⟨v3, h3, q3, b3⟩ := mul_x (B := 70368744177665) ha sy.p (by decide) (by decide) (by decide) (by decide)
 have h4 := sub_near b2 b3 (by decide) (by decide) (by decide)
 obtain ⟨v5, h5, q5, b5⟩ := mul_x (B := 35184372088833) hc sx.d (by decide) (by decide) (by decide) (by decide)
 obtain ⟨v6, h6, q6, b6⟩ := mul_x (B := 35184372088833) hs sx.p (by decide) (by decide) (by decide) (by decide)
 have h7 := sub_near b5 b6 (by decide) (by decide) (by decide)
 obtain ⟨v8, h8, q8, b8⟩ := mul_x (B := 281474976710666) hb (b5.sub b6) (by decide) (by decide) (by decide) (by decide)
 obtain ⟨v9, h9, q9, b9⟩ := mul_x (B := 70368744177665) ha sy.d (by decide) (by decide) (by decide) (by decide)
 have h10 := sub_near b8 b9 (by decide) (by decide) (by decide)
 obtain ⟨v11, h11, q11, b11⟩ := mul_x (B := 35184372088833) hc sx.q (by decide) (by decide) (by decide) (by decide)
 obtain ⟨v12, h12, q12, b12⟩ := mul_x (B := 140737488355333) hb b11 (by decide) (by decide) (by decide) (by decide)
 obtain ⟨v13, h13, q13, b13⟩ := mul_x (B := 70368744177665) ha sy.q (by decide) (by decide) (by decide) (by decide)
 have h14 := sub_near b12 b13 (by decide) (by decide) (by decide)
 refine ⟨(v2 - v3, v8 - v9, v12 - v13), ?_, ?_, ?_, ?_⟩
 ·unfold entS
  simp only [h1, h2, h3, h4, h5, h6, h7, h8, h9, h10, h11, h12, h13, h14]
 ·exact (round_in (pt_in b) (round_in iC ix.p q1) q2).sub (round_in (pt_in a) iy.p q3)
 ·exact (round_in (pt_in b) ((round_in iC ix.d q5).sub (round_in iS ix.p q6)) q8).sub (round_in (pt_in a) iy.d q9)
 ·exact (round_in (pt_in b) (round_in iC ix.q q11) q12).sub (round_in (pt_in a) iy.q q13)
theorem dia_at {c s j : Int} {x : V3} {C S : Iv} {X : T3} (hc : Ab c 2199023255552) (hs : Ab s 2199023255552) (hj : Ab j 4398046511104) (sx : Sm3 x) (iC : In C c) (iS : In S s) (ix : In3 X x) :
    ∃ z, diaS false c s j x = (z, false) ∧ In3 (diaI C S j X) z := by
 obtain ⟨v1, h1, q1, b1⟩ := mul_x (B := 35184372088833) hs sx.p (by decide) (by decide) (by decide) (by decide)
 obtain ⟨v2, h2, q2, b2⟩ := mul_x (B := 140737488355333) hj b1 (by decide) (by decide) (by decide) (by decide)
 obtain ⟨v3, h3, q3, b3⟩ := mul_x (B := 35184372088833) hs sx.d (by decide) (by decide) (by decide) (by decide)
 obtain ⟨v4, h4, q4, b4⟩ := mul_x (B := 35184372088833) hc sx.p (by decide) (by decide) (by decide) (by decide)
 have h5 := add_near b3 b4 (by decide) (by decide) (by decide)
 obtain ⟨v6, h6, q6, b6⟩ := mul_x (B := 281474976710666) hj (b3.add b4) (by decide) (by decide) (by decide) (by decide)
 obtain ⟨v7, h7, q7, b7⟩ := mul_x (B := 35184372088833) hs sx.q (by decide) (by decide) (by decide) (by decide)
 obtain ⟨v8, h8, q8, b8⟩ := mul_x (B := 140737488355333) hj b7 (by decide) (by decide) (by decide) (by decide)
 refine ⟨(v2, v6, v8), ?_, ?_, ?_, ?_⟩
 ·unfold diaS
  simp only [h1, h2, h3, h4, h5, h6, h7, h8]
 ·exact round_in (pt_in j) (round_in iS ix.p q1) q2
 ·exact round_in (pt_in j) ((round_in iS ix.d q3).add (round_in iC ix.p q4)) q6
 ·exact round_in (pt_in j) (round_in iS ix.q q7) q8
def tri (c s : Int) : Nat → Nat → V3
 | 0, m => if m = 0 then (1099511627776, 0, 0) else (0, 0, 0)
 | 1, m => if m = 0 then (entS false c s (fB 1 0) (fA 1 0) (1099511627776, 0, 0) (0, 0, 0)).1 else if m = 1 then (s, c, 1099511627776) else (0, 0, 0)
 | n + 2, m => if m < n + 2 then (entS false c s (fB (n + 2) m) (fA (n + 2) m) (tri c s (n + 1) m) (tri c s n m)).1 else if m = n + 2 then (diaS false c s (fJ (n + 2)) (tri c s (n + 1) (n + 1))).1 else (0, 0, 0)
def z3 : T3 := (pt 0, pt 0, pt 0)
def tab (k : Nat) (f : Nat → T3) : List T3 := (List.range k).map f
theorem tab_get (k : Nat) (f : Nat → T3) (m : Nat) : (tab k f).getD m z3 = if m < k then f m else z3 := by
 unfold tab
 by_cases h : m < k
 ·rw [if_pos h]; simp [List.getD, h]
 ·rw [if_neg h]; simp [List.getD, h]
def rowI (C S : Iv) : Nat → List T3 × List T3
 | 0 => (tab 1 (fun _ => (pt 1099511627776, pt 0, pt 0)), [])
 | 1 => (tab 2 (fun m => if m = 0 then entI C S (fB 1 0) (fA 1 0) (pt 1099511627776, pt 0, pt 0) z3 else (S, C, pt 1099511627776)), tab 1 (fun _ => (pt 1099511627776, pt 0, pt 0)))
 | n + 2 => (tab (n + 3) (fun m => if m < n + 2 then entI C S (fB (n + 2) m) (fA (n + 2) m) ((rowI C S (n + 1)).1.getD m z3) ((rowI C S (n + 1)).2.getD m z3) else diaI C S (fJ (n + 2)) ((rowI C S (n + 1)).1.getD (n + 1) z3)), (rowI C S (n + 1)).1)
theorem rowI0 (C S : Iv) : (rowI C S 0).1 = tab 1 (fun _ => (pt 1099511627776, pt 0, pt 0)) := by rw [rowI]
theorem rowI1 (C S : Iv) : (rowI C S 1).1 = tab 2 (fun m => if m = 0 then entI C S (fB 1 0) (fA 1 0) (pt 1099511627776, pt 0, pt 0) z3 else (S, C, pt 1099511627776)) := by rw [rowI]
theorem rowI10 (C S : Iv) : (rowI C S 1).2 = (rowI C S 0).1 := by rw [rowI, rowI]
def small3 (X : T3) : Bool := decide (mag X.1 ≤ 17592186044416) && decide (mag X.2.1 ≤ 17592186044416) && decide (mag X.2.2 ≤ 17592186044416)
theorem small3_get {X : T3} {x : V3} (h : small3 X = true) (i : In3 X x) : Sm3 x := by
 unfold small3 at h
 simp only [Bool.and_eq_true, decide_eq_true_eq] at h
 exact ⟨mag_ab i.p h.1.1, mag_ab i.d h.1.2, mag_ab i.q h.2⟩
theorem z3_in : In3 z3 (0, 0, 0) := ⟨pt_in 0, pt_in 0, pt_in 0⟩
theorem one3_in : In3 (pt 1099511627776, pt 0, pt 0) (1099511627776, 0, 0) := ⟨pt_in _, pt_in 0, pt_in 0⟩
theorem Sm3.zero : Sm3 (0, 0, 0) := ⟨⟨by decide, by decide⟩, ⟨by decide, by decide⟩, ⟨by decide, by decide⟩⟩
theorem Sm3.one : Sm3 (1099511627776, 0, 0) := ⟨⟨by decide, by decide⟩, ⟨by decide, by decide⟩, ⟨by decide, by decide⟩⟩
structure RowOK (c s : Int) (L : List T3 × List T3) (n : Nat) : Prop where
 a : ∀ m, In3 (L.1.getD m z3) (tri c s n m)
 b : ∀ m, n ≠ 0 → In3 (L.2.getD m z3) (tri c s (n - 1) m)
 sa : ∀ m, Sm3 (tri c s n m)
 sb : ∀ m, n ≠ 0 → Sm3 (tri c s (n - 1) m)
theorem row0 (c s : Int) (C S : Iv) : RowOK c s (rowI C S 0) 0 := by
 have h (m : Nat) : In3 ((rowI C S 0).1.getD m z3) (tri c s 0 m) := by
  rw [rowI0, tab_get]
  unfold tri
  by_cases hm : m = 0
  ·rw [if_pos (by omega), if_pos hm]; exact one3_in
  ·rw [if_neg (by omega), if_neg hm]; exact z3_in
 have k (m : Nat) : Sm3 (tri c s 0 m) := by
  unfold tri
  split
  ·exact Sm3.one
  ·exact Sm3.zero
 exact ⟨h, fun m e => absurd rfl e, k, fun m e => absurd rfl e⟩
theorem row1 {c s : Int} {C S : Iv} (hc : Ab c 2199023255552) (hs : Ab s 2199023255552) (iC : In C c) (iS : In S s) (ok : (rowI C S 1).1.all small3 = true) :
    RowOK c s (rowI C S 1) 1 ∧ (entS false c s (fB 1 0) (fA 1 0) (1099511627776, 0, 0) (0, 0, 0)).2 = false := by
 obtain ⟨z, e, i⟩ := ent_at (x := (1099511627776, 0, 0)) (y := (0, 0, 0)) hc hs (fB_bd 1 0) (fA_bd 1 0) Sm3.one Sm3.zero iC iS one3_in z3_in
 have h (m : Nat) : In3 ((rowI C S 1).1.getD m z3) (tri c s 1 m) := by
  rw [rowI1, tab_get]
  unfold tri
  by_cases hm : m = 0
  ·rw [if_pos (by omega), if_pos hm, if_pos hm, e]; exact i
  ·by_cases h1 : m = 1
   ·rw [if_pos (by omega), if_neg hm, if_neg hm, if_pos h1]; exact ⟨iS, iC, pt_in _⟩
   ·rw [if_neg (by omega), if_neg hm, if_neg h1]; exact z3_in
 refine ⟨⟨h, fun m _ => by rw [rowI10]; exact (row0 c s C S).a m, fun m => ?_, fun m _ => (row0 c s C S).sa m⟩, by rw [e]⟩
 by_cases hm : m < 2
 ·refine small3_get (X := (rowI C S 1).1.getD m z3) ?_ (h m)
  rw [List.all_eq_true] at ok
  apply ok
  rw [rowI1, tab_get, if_pos hm]
  exact List.mem_map.2 ⟨m, List.mem_range.2 hm, rfl⟩
 ·unfold tri
  rw [if_neg (by omega), if_neg (by omega)]
  exact Sm3.zero
theorem row2 {c s : Int} {C S : Iv} {n : Nat} (hc : Ab c 2199023255552) (hs : Ab s 2199023255552) (iC : In C c) (iS : In S s) (R : RowOK c s (rowI C S (n + 1)) (n + 1)) (ok : (rowI C S (n + 2)).1.all small3 = true) :
    RowOK c s (rowI C S (n + 2)) (n + 2) ∧ (∀ m, (entS false c s (fB (n + 2) m) (fA (n + 2) m) (tri c s (n + 1) m) (tri c s n m)).2 = false) ∧ (diaS false c s (fJ (n + 2)) (tri c s (n + 1) (n + 1))).2 = false := by
 have E (m : Nat) := ent_at hc hs (fB_bd (n + 2) m) (fA_bd (n + 2) m) (R.sa m) (R.sb m (Nat.succ_ne_zero _)) iC iS (R.a m) (R.b m (Nat.succ_ne_zero _))
 have J := dia_at hc hs (fJ_bd (n + 2)) (R.sa (n + 1)) iC iS (R.a (n + 1))
 have h (m : Nat) : In3 ((rowI C S (n + 2)).1.getD m z3) (tri c s (n + 2) m) := by
  show In3 ((tab (n + 3) _).getD m z3) (tri c s (n + 2) m)
  rw [tab_get]
  unfold tri
  by_cases hm : m < n + 2
  ·rw [if_pos (by omega), if_pos hm, if_pos hm]
   obtain ⟨z, e, i⟩ := E m
   have e' : entS false c s (fB (n + 2) m) (fA (n + 2) m) (tri c s (n + 1) m) (tri c s n m) = (z, false) := e
   rw [e']; exact i
  ·by_cases h1 : m = n + 2
   ·rw [if_pos (by omega), if_neg hm, if_neg hm, if_pos h1]
    obtain ⟨z, e, i⟩ := J
    rw [e]; exact i
   ·rw [if_neg (by omega), if_neg hm, if_neg h1]; exact z3_in
 refine ⟨⟨h, fun m _ => R.a m, fun m => ?_, fun m _ => R.sa m⟩, fun m => ?_, ?_⟩
 ·by_cases hm : m < n + 3
  ·refine small3_get (X := (rowI C S (n + 2)).1.getD m z3) ?_ (h m)
   rw [List.all_eq_true] at ok
   apply ok
   show (tab (n + 3) _).getD m z3 ∈ tab (n + 3) _
   rw [tab_get, if_pos hm]
   exact List.mem_map.2 ⟨m, List.mem_range.2 hm, rfl⟩
  ·unfold tri
   rw [if_neg (by omega), if_neg (by omega)]
   exact Sm3.zero
 ·obtain ⟨z, e, _⟩ := E m
  have e' : entS false c s (fB (n + 2) m) (fA (n + 2) m) (tri c s (n + 1) m) (tri c s n m) = (z, false) := e
  rw [e']
 ·obtain ⟨z, e, _⟩ := J
  rw [e]
end Go.Proofs.YtbophanlmkbfeaaGreatDoor
namespace Go.Proofs.YtbophanlmkbfeaaGreatDoor
def fG : Nat → Nat → Int
 | 1, 0 => -32270666275226
 | 1, 1 => -1550641248652
 | 2, 0 => -2810571622921
 | 2, 1 => 3244548862404
 | 2, 2 => 1812764820714
 | 3, 0 => 1496325374240
 | 3, 1 => -2643445855499
 | 3, 2 => 1367572562628
 | 3, 3 => 498518572034
 | 4, 0 => 983733053371
 | 4, 1 => 879169497570
 | 4, 2 => 61352748830
 | 4, 3 => -309072718568
 | 4, 4 => 13194139533
 | 5, 0 => -256076258109
 | 5, 1 => 405719790649
 | 5, 2 => 205828576720
 | 5, 3 => -152502262773
 | 5, 4 => -156020699981
 | 5, 5 => 22979793021
 | 6, 0 => 70698597666
 | 6, 1 => 70148841852
 | 6, 2 => 84332541850
 | 6, 3 => -127213495334
 | 6, 4 => -44970025576
 | 6, 5 => 16382723254
 | 6, 6 => -66850306969
 | _, _ => 0
def fH : Nat → Nat → Int
 | 1, 1 => 4997830104056
 | 2, 1 => -3445429636799
 | 2, 2 => -895222367335
 | 3, 1 => -62562211620
 | 3, 2 => 261243962760
 | 3, 3 => -604291590626
 | 4, 1 => 306323939498
 | 4, 2 => -147334558122
 | 4, 3 => 233096465089
 | 4, 4 => -412756665067
 | 5, 1 => 49807876738
 | 5, 2 => 241892558111
 | 5, 3 => -135129979054
 | 5, 4 => 47169048832
 | 5, 5 => 116768134870
 | 6, 1 => -20231013951
 | 6, 2 => 18471795347
 | 6, 3 => 53766118598
 | 6, 4 => -65750795341
 | 6, 5 => 11984676743
 | 6, 6 => 80044446502
 | _, _ => 0
def fGy : Nat → Nat → Int
 | 1, 0 => 13853846510
 | 1, 1 => 10995116278
 | 2, 0 => -12314530231
 | 2, 1 => -5827411627
 | 2, 2 => -9125946511
 | _, _ => 0
def fHy : Nat → Nat → Int
 | 1, 1 => -23639499997
 | 2, 1 => -30016667438
 | 2, 2 => -12204579068
 | _, _ => 0
def gI (n m : Nat) : Iv := if n ≤ 2 then (fG n m + min 0 (5 * fGy n m), fG n m + max 0 (5 * fGy n m)) else pt (fG n m)
def hI (n m : Nat) : Iv := if n ≤ 2 then (fH n m + min 0 (5 * fHy n m), fH n m + max 0 (5 * fHy n m)) else pt (fH n m)
def tS : Int → Nat → Int
 | q, 0 => (mulS false q q).1
 | q, n + 1 => (mulS false (tS q n) q).1
def tI (Q : Iv) : Nat → Iv
 | 0 => imul Q Q
 | n + 1 => imul (tI Q n) Q
def tB : Nat → Int
 | 0 => 1241245548545
 | 1 => 1318823395330
 | 2 => 1401249857539
 | 3 => 1488827973636
 | 4 => 1581879721989
 | 5 => 1680747204614
 | _ => 1785793904903
theorem tB_next (n : Nat) (h : n < 6) : tB n * 1168231104512 + 549755813888 ≤ tB (n + 1) * 1099511627776 ∧ tB n ≤ 2199023255552 := by
 have six : n = 0 ∨ n = 1 ∨ n = 2 ∨ n = 3 ∨ n = 4 ∨ n = 5 := by omega
 rcases six with rfl | rfl | rfl | rfl | rfl | rfl <;> decide
theorem tB_le (n : Nat) : tB n ≤ 2199023255552 := by unfold tB; split <;> decide
theorem t_at {q : Int} {Q : Iv} (q0 : 0 ≤ q) (q1 : q ≤ 1168231104512) (iQ : In Q q) : ∀ n, n ≤ 6 → In (tI Q n) (tS q n) ∧ 0 ≤ tS q n ∧ tS q n ≤ tB n
 | 0, _ => by
  obtain ⟨m, e, r, _⟩ := mul_x (a := q) (b := q) (K := 1168231104512) (L := 1168231104512) (B := 2199023255552) ⟨by omega, q1⟩ ⟨by omega, q1⟩ (by decide) (by decide) (by decide) (by decide)
  have p := Int.mul_nonneg q0 q0
  have p2 := Int.mul_le_mul q1 q1 q0 (by decide)
  unfold tS tI
  rw [e]
  have := r.lo; have := r.hi
  exact ⟨round_in iQ iQ r, by show 0 ≤ m; omega, by show m ≤ 1241245548545; omega⟩
 | n + 1, hn => by
  obtain ⟨i, t0, t1⟩ := t_at q0 q1 iQ n (by omega)
  have T := tB_next n (by omega)
  obtain ⟨m, e, r, _⟩ := mul_x (a := tS q n) (b := q) (K := 2199023255552) (L := 1168231104512) (B := 2400000000000) ⟨by omega, by omega⟩ ⟨by omega, q1⟩ (by decide) (by decide) (by decide) (by decide)
  have p := Int.mul_nonneg t0 q0
  have p2 := Int.mul_le_mul t1 q1 q0 (by omega)
  unfold tS tI
  rw [e]
  have := r.lo; have := r.hi
  exact ⟨round_in i iQ r, by show 0 ≤ m; omega, by show m ≤ _; omega⟩
def hyp (a b : Int) : Int := ((a * a + b * b) / (max a b + 3 * min a b / 8 + 1) + (max a b + 3 * min a b / 8 + 1)) / 2 + 1
def hypOK (a b : Int) : Bool := decide (a * a + b * b ≤ hyp a b * hyp a b) && decide (0 ≤ hyp a b)
section
variable (C S Q : Iv)
def uA (m : Nat) : Iv := iacc (fun n => ims ((n : Int) + 2) (imul (imul (tI Q (n + 1)) ((rowI C S (n + 1)).1.getD m z3).1) (gI (n + 1) m))) 6
def uB (m : Nat) : Iv := iacc (fun n => ims ((n : Int) + 2) (imul (imul (tI Q (n + 1)) ((rowI C S (n + 1)).1.getD m z3).1) (hI (n + 1) m))) 6
def sA (m : Nat) : Iv := iacc (fun n => imul (imul (tI Q (n + 1)) ((rowI C S (n + 1)).1.getD m z3).2.1) (gI (n + 1) m)) 6
def sB (m : Nat) : Iv := iacc (fun n => imul (imul (tI Q (n + 1)) ((rowI C S (n + 1)).1.getD m z3).2.1) (hI (n + 1) m)) 6
def eA (m : Nat) : Iv := iacc (fun n => ims (m : Int) (imul (imul (tI Q (n + 1)) ((rowI C S (n + 1)).1.getD m z3).2.2) (gI (n + 1) m))) 6
def eB (m : Nat) : Iv := iacc (fun n => ims (m : Int) (imul (imul (tI Q (n + 1)) ((rowI C S (n + 1)).1.getD m z3).2.2) (hI (n + 1) m))) 6
def most (A B : Nat → Iv) : Int := sm (fun m => hyp (mag (A m)) (mag (B m))) 7
def mostOK (A B : Nat → Iv) : Bool := (List.range 7).all fun m => hypOK (mag (A m)) (mag (B m))
def rowsOK : Bool := (List.range 6).all fun n => (rowI C S (n + 1)).1.all small3
def vA (r d : Int) (m : Nat) : Iv := isub (ims r (uA C S Q m)) (ims d (sA C S Q m))
def vB (r d : Int) (m : Nat) : Iv := isub (ims r (uB C S Q m)) (ims d (sB C S Q m))
def boxOK (r d : Int) : Bool :=
 rowsOK C S && mostOK (uA C S Q) (uB C S Q) && mostOK (sA C S Q) (sB C S Q) && mostOK (eA C S Q) (eB C S Q) && mostOK (vA C S Q r d) (vB C S Q r d) &&
 decide (most (uA C S Q) (uB C S Q) * most (uA C S Q) (uB C S Q) + most (sA C S Q) (sB C S Q) * most (sA C S Q) (sB C S Q) + most (eA C S Q) (eB C S Q) * most (eA C S Q) (eB C S Q) ≤ 9575901417167477692847620096) &&
 decide (3100 * 1099511627776 * 1099511627776 ≤ -(vA C S Q r d 0).2 * 1099511627776 - (most (vA C S Q r d) (vB C S Q r d) - hyp (mag (vA C S Q r d 0)) (mag (vB C S Q r d 0))) * 1099528404992) &&
 decide (r * r + d * d ≤ 1000000)
end
end Go.Proofs.YtbophanlmkbfeaaGreatDoor
namespace Go.Proofs.YtbophanlmkbfeaaGreatDoor
section
variable (c s q : Int) (g h : Nat → Nat → Int) (C S : Nat → Int)
def wU (n m : Nat) : Int := ((n : Int) + 2) * (tS q (n + 1) * (tri c s (n + 1) m).1)
def wS (n m : Nat) : Int := tS q (n + 1) * (tri c s (n + 1) m).2.1
def wE (n m : Nat) : Int := (m : Int) * (tS q (n + 1) * (tri c s (n + 1) m).2.2)
end
structure Lies (C S Q : Iv) (c s q : Int) : Prop where
 ic : In C c
 is_ : In S s
 iq : In Q q
 cb : Ab c 2199023255552
 sb : Ab s 2199023255552
 q0 : 0 ≤ q
 q1 : q ≤ 1168231104512
 rows : ∀ n, n < 6 → ∀ m, In3 ((rowI C S (n + 1)).1.getD m z3) (tri c s (n + 1) m)
 sm : ∀ n, n < 6 → ∀ m, Sm3 (tri c s (n + 1) m)
 ent : ∀ n, n < 6 → ∀ m, m < n + 1 → ∃ x, entS false c s (fB (n + 1) m) (fA (n + 1) m) (tri c s n m) (if n = 0 then (0, 0, 0) else tri c s (n - 1) m) = (tri c s (n + 1) m, x) ∧ x = false
 dia : ∀ n, n < 5 → diaS false c s (fJ (n + 2)) (tri c s (n + 1) (n + 1)) = (tri c s (n + 2) (n + 2), false)
theorem lies_at {C S Q : Iv} {c s q : Int} (iC : In C c) (iS : In S s) (iQ : In Q q) (hc : Ab c 2199023255552) (hs : Ab s 2199023255552) (q0 : 0 ≤ q) (q1 : q ≤ 1168231104512) (ok : rowsOK C S = true) : Lies C S Q c s q := by
 unfold rowsOK at ok
 rw [List.all_eq_true] at ok
 have o (n : Nat) (hn : n < 6) : (rowI C S (n + 1)).1.all small3 = true := ok n (List.mem_range.2 hn)
 obtain ⟨r1, e1⟩ := row1 hc hs iC iS (o 0 (by decide))
 obtain ⟨r2, e2, d2⟩ := row2 (n := 0) hc hs iC iS r1 (o 1 (by decide))
 obtain ⟨r3, e3, d3⟩ := row2 (n := 1) hc hs iC iS r2 (o 2 (by decide))
 obtain ⟨r4, e4, d4⟩ := row2 (n := 2) hc hs iC iS r3 (o 3 (by decide))
 obtain ⟨r5, e5, d5⟩ := row2 (n := 3) hc hs iC iS r4 (o 4 (by decide))
 obtain ⟨r6, e6, d6⟩ := row2 (n := 4) hc hs iC iS r5 (o 5 (by decide))
 have six (n : Nat) (hn : n < 6) : n = 0 ∨ n = 1 ∨ n = 2 ∨ n = 3 ∨ n = 4 ∨ n = 5 := by omega
 have go (n m : Nat) (hm : m < n + 2) (e : (entS false c s (fB (n + 2) m) (fA (n + 2) m) (tri c s (n + 1) m) (tri c s n m)).2 = false) : entS false c s (fB (n + 2) m) (fA (n + 2) m) (tri c s (n + 1) m) (tri c s n m) = (tri c s (n + 2) m, false) := by
  rw [show tri c s (n + 2) m = (entS false c s (fB (n + 2) m) (fA (n + 2) m) (tri c s (n + 1) m) (tri c s n m)).1 by (conv => lhs; unfold tri); rw [if_pos hm]]
  exact Prod.ext rfl e
 have gd (n : Nat) (e : (diaS false c s (fJ (n + 2)) (tri c s (n + 1) (n + 1))).2 = false) : diaS false c s (fJ (n + 2)) (tri c s (n + 1) (n + 1)) = (tri c s (n + 2) (n + 2), false) := by
  rw [show tri c s (n + 2) (n + 2) = (diaS false c s (fJ (n + 2)) (tri c s (n + 1) (n + 1))).1 by (conv => lhs; unfold tri); rw [if_neg (by omega), if_pos rfl]]
  exact Prod.ext rfl e
 refine ⟨iC, iS, iQ, hc, hs, q0, q1, ?_, ?_, ?_, ?_⟩
 ·intro n hn
  rcases six n hn with rfl | rfl | rfl | rfl | rfl | rfl
  ·exact r1.a
  ·exact r2.a
  ·exact r3.a
  ·exact r4.a
  ·exact r5.a
  ·exact r6.a
 ·intro n hn
  rcases six n hn with rfl | rfl | rfl | rfl | rfl | rfl
  ·exact r1.sa
  ·exact r2.sa
  ·exact r3.sa
  ·exact r4.sa
  ·exact r5.sa
  ·exact r6.sa
 ·intro n hn m hm
  refine ⟨false, ?_, rfl⟩
  rcases six n hn with rfl | rfl | rfl | rfl | rfl | rfl
  ·obtain rfl : m = 0 := by omega
   rw [if_pos rfl, show tri c s 0 0 = (1099511627776, 0, 0) by unfold tri; rfl, show tri c s (0 + 1) 0 = (entS false c s (fB 1 0) (fA 1 0) (1099511627776, 0, 0) (0, 0, 0)).1 by unfold tri; rfl]
   exact Prod.ext rfl e1
  ·rw [if_neg (by decide)]; exact go 0 m hm (e2 m)
  ·rw [if_neg (by decide)]; exact go 1 m hm (e3 m)
  ·rw [if_neg (by decide)]; exact go 2 m hm (e4 m)
  ·rw [if_neg (by decide)]; exact go 3 m hm (e5 m)
  ·rw [if_neg (by decide)]; exact go 4 m hm (e6 m)
 ·intro n hn
  have five : n = 0 ∨ n = 1 ∨ n = 2 ∨ n = 3 ∨ n = 4 := by omega
  rcases five with rfl | rfl | rfl | rfl | rfl
  ·exact gd 0 d2
  ·exact gd 1 d3
  ·exact gd 2 d4
  ·exact gd 3 d5
  ·exact gd 4 d6
section
variable {C S Q : Iv} {c s q : Int} {g h : Nat → Nat → Int} {Cm Sm : Nat → Int}
end
end Go.Proofs.YtbophanlmkbfeaaGreatDoor
