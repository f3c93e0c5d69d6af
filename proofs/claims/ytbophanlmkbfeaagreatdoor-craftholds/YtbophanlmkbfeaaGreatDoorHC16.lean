/-
A part.
A part.
A part.
A part.
A part.
A part.
A part.
A part.
-/
import Derived.Handy
import Derived.Deep.RegionHeld3
import Derived.BigRegion
import Derived.Test.YtbophanlmkbfeaaGreatDoorHC15
import Derived.Test.YtbophanlmkbfeaaGreatDoorHC09
import Derived.Test.YtbophanlmkbfeaaGreatDoorHC11
import Derived.Test.YtbophanlmkbfeaaGreatDoorHC01
namespace Go.Proofs.YtbophanlmkbfeaaGreatDoor
open Go.RowKit Go.Maps Go.WideMaps
set_option maxRecDepth 100000
set_option maxHeartbeats 20000000
def ldF (c2 c4 c6 c8 c10 : Bool) : Int → Int → Int := fun n m => if (c2 = true ∧ n = 1 ∧ m = 1) ∨ (c4 = true ∧ n = 2 ∧ m = 1) ∨ (c6 = true ∧ n = 2 ∧ m = 4) ∨ (c8 = true ∧ n = 2 ∧ m = 2) ∨ (c10 = true ∧ n = 2 ∧ m = 8) then 1 else 0
theorem ldF_zero (n m : Int) : (0 : Int) = ldF false false false false false n m := by unfold ldF; simp
theorem ldF_2 (c4 c6 c8 c10 : Bool) (n m : Int) : putM (ldF false c4 c6 c8 c10) 1 1 1 n m = ldF true c4 c6 c8 c10 n m := by
 unfold putM ldF
 by_cases h : n = 1 ∧ m = 1
 ·rw [if_pos h]; simp [h]
 ·rw [if_neg h]; simp [h]
theorem ldF_4 (c2 c6 c8 c10 : Bool) (n m : Int) : putM (ldF c2 false c6 c8 c10) 2 1 1 n m = ldF c2 true c6 c8 c10 n m := by
 unfold putM ldF
 by_cases h : n = 2 ∧ m = 1
 ·rw [if_pos h]; simp [h]
 ·rw [if_neg h]; simp [h]
theorem ldF_6 (c2 c4 c8 c10 : Bool) (n m : Int) : putM (ldF c2 c4 false c8 c10) 2 4 1 n m = ldF c2 c4 true c8 c10 n m := by
 unfold putM ldF
 by_cases h : n = 2 ∧ m = 4
 ·rw [if_pos h]; simp [h]
 ·rw [if_neg h]; simp [h]
theorem ldF_8 (c2 c4 c6 c10 : Bool) (n m : Int) : putM (ldF c2 c4 c6 false c10) 2 2 1 n m = ldF c2 c4 c6 true c10 n m := by
 unfold putM ldF
 by_cases h : n = 2 ∧ m = 2
 ·rw [if_pos h]; simp [h]
 ·rw [if_neg h]; simp [h]
theorem ldF_10 (c2 c4 c6 c8 : Bool) (n m : Int) : putM (ldF c2 c4 c6 c8 false) 2 8 1 n m = ldF c2 c4 c6 c8 true n m := by
 unfold putM ldF
 by_cases h : n = 2 ∧ m = 8
 ·rw [if_pos h]; simp [h]
 ·rw [if_neg h]; simp [h]
structure LI (w0 : World) (m0 c2 c4 c6 c8 c10 v11 r12 : Bool) (x0 x1 x7 : Value) (k : Nat) (w : World) : Prop where
 bel : Below w0.heap.size w0 w
 A : m0 = true → x1 = .map (some k) ∧ w0.heap.size ≤ k ∧ Mm k (c2.toNat + c4.toNat + c6.toNat + c8.toNat + c10.toNat) (ldF c2 c4 c6 c8 c10) w
 va : m0 = false → c2 = false ∧ c4 = false ∧ c6 = false ∧ c8 = false ∧ c10 = false ∧ v11 = false
 V : v11 = true → x7 = .map (some k) ∧ c2 = true ∧ c4 = true ∧ c6 = true ∧ c8 = true ∧ c10 = true
 R : r12 = true → x0 = .map (some k) ∧ v11 = true
theorem leads_any (w : World) : Calls Tryz.prog 198 #[] w fun e w' => ∃ k, e = .returned (.map (some k)) ∧ w.heap.size ≤ k ∧ Mm k 5 (ldF true true true true true) w' ∧ Below w.heap.size w w' := by
 go_enter Tryz.func198, Tryz.ntmps198
 go_wp2_with fail
 refine get_cont (fun KK hKK => ?_)
 have cont : ∀ (W : World) (k : Nat) (y1 y2 y3 y4 y5 y6 y7 : Value), Below w.heap.size w W → w.heap.size ≤ k → Mm k 5 (ldF true true true true true) W → KK { tmps := #[.map (some k), y1, y2, y3, y4, y5, y6, y7], defers := [] } W := by
  intro W k y1 y2 y3 y4 y5 y6 y7 b1 hk M
  rw [hKK.out]
  dsimp only [Exit.inBlock, Exit.then]
  first | refine use_cont (by assumption) ?_ | skip
  go_wp2_with (with_reducible refine post_stop ?_)
  exact ⟨bodyPost_ret (v := .map (some k)) (by simp [results, Tryz.results198, go_sem]) rfl ⟨k, rfl, hk, M, b1⟩⟩
 refine wp_region_held_drew (S := fun _ => True) (by kernel_rfl) trivial (fun zH => ?_)
 refine zT 1 rfl (by kernel_rfl) (fun _ _ _ => id) rfl (fun _ _ => by go_simp <;> with_reducible rfl) zH ?_
 simp only [Act.put, zA, zB, zC]
 refine zT 3 rfl (by kernel_rfl) (fun _ _ _ => id) rfl (fun _ _ => by go_simp <;> with_reducible rfl) zH ?_
 simp only [Act.put, zA, zB, zC]
 refine zT 5 rfl (by kernel_rfl) (fun _ _ _ => id) rfl (fun _ _ => by go_simp <;> with_reducible rfl) zH ?_
 simp only [Act.put, zA, zB, zC]
 refine zT 7 rfl (by kernel_rfl) (fun _ _ _ => id) rfl (fun _ _ => by go_simp <;> with_reducible rfl) zH ?_
 simp only [Act.put, zA, zB, zC]
 refine zT 9 rfl (by kernel_rfl) (fun _ _ _ => id) rfl (fun _ _ => by go_simp <;> with_reducible rfl) zH ?_
 simp only [Act.put, zA, zB, zC]
 have K1 : Below w.heap.size w w.drew := ⟨rfl, rfl, rfl, Nat.le_refl _, fun _ _ => rfl⟩
 generalize w.drew = w1 at K1 ⊢
 have l1 := K1.size
 clear zH
 refine orders_ind (fun L a wi => ∃ (m0 c2 c4 c6 c8 c10 v11 r12 : Bool) (x0 x1 x7 : Value) (k : Nat), L = #[m0, true, c2, true, c4, true, c6, true, c8, true, c10, v11, r12] ∧ a = { tmps := #[x0, x1, .agg #[.int .i64 1, .int .i64 1], .agg #[.int .i64 2, .int .i64 1], .agg #[.int .i64 2, .int .i64 4], .agg #[.int .i64 2, .int .i64 2], .agg #[.int .i64 2, .int .i64 8], x7], defers := [] } ∧ LI w1 m0 c2 c4 c6 c8 c10 v11 r12 x0 x1 x7 k wi) ?_ ?_ 8 _ _ _ (by decide) ?_
 ·intro L a wi i o ho hi hI K hK
  obtain ⟨m0, c2, c4, c6, c8, c10, v11, r12, x0, x1, x7, k, rfl, rfl, I⟩ := hI
  have hall := (mem_ready.1 hi).2
  have hun := (mem_ready.1 hi).1
  have hlt : i < 13 := (List.getElem?_eq_some_iff.1 ho).1
  match i, hlt with
  | 0, _ =>
   obtain rfl : m0 = false := hun
   clear hall
   cases ho
   obtain ⟨rfl, rfl, rfl, rfl, rfl, rfl⟩ := I.va rfl
   go_simp
   refine hK.out _ _ ?_
   exact ⟨true, false, false, false, false, false, false, r12, x0, .map (some wi.heap.size), x7, wi.heap.size, rfl, rfl, ⟨bel_al I.bel _, fun _ => ⟨rfl, I.bel.size, (Mm.made wi _ rfl).eqv ldF_zero⟩, (fun h => by cases h), (fun h => by cases h), fun h => absurd (I.R h).2 (by decide)⟩⟩
  | 1, _ =>
   exact absurd (show true = false from hun) (by decide)
  | 2, _ =>
   obtain rfl : c2 = false := hun
   obtain ⟨o2, ho2, hall⟩ := hall
   cases ho2
   obtain rfl : m0 = true := hall ⟨0, .data⟩ (by simp) rfl
   clear hall
   cases ho
   obtain ⟨e1, g1, M⟩ := I.A rfl
   subst e1
   have hv : v11 = false := by cases v11 with | false => rfl | true => (have h := I.V rfl; simp at h)
   subst hv
   refine mm_ins (by rfl) rfl rfl rfl rfl M (by cases c4 <;> cases c6 <;> cases c8 <;> cases c10 <;> decide) ⟨by decide, by decide⟩ ⟨by decide, by decide⟩ ⟨by decide, by decide⟩ ?_
   intro w2 M1 k1
   simp only [Act.put]
   refine hK.out _ _ ?_
   exact ⟨true, true, c4, c6, c8, c10, false, r12, x0, .map (some k), x7, k, rfl, rfl, ⟨k1.on I.bel g1, fun _ => ⟨rfl, g1, (M1.mono (by cases c4 <;> cases c6 <;> cases c8 <;> cases c10 <;> decide)).eqv (ldF_2 _ _ _ _)⟩, (fun h => by cases h), (fun h => by cases h), fun h => absurd (I.R h).2 (by decide)⟩⟩
  | 3, _ =>
   exact absurd (show true = false from hun) (by decide)
  | 4, _ =>
   obtain rfl : c4 = false := hun
   obtain ⟨o2, ho2, hall⟩ := hall
   cases ho2
   obtain rfl : m0 = true := hall ⟨0, .data⟩ (by simp) rfl
   clear hall
   cases ho
   obtain ⟨e1, g1, M⟩ := I.A rfl
   subst e1
   have hv : v11 = false := by cases v11 with | false => rfl | true => (have h := I.V rfl; simp at h)
   subst hv
   refine mm_ins (by rfl) rfl rfl rfl rfl M (by cases c2 <;> cases c6 <;> cases c8 <;> cases c10 <;> decide) ⟨by decide, by decide⟩ ⟨by decide, by decide⟩ ⟨by decide, by decide⟩ ?_
   intro w2 M1 k1
   simp only [Act.put]
   refine hK.out _ _ ?_
   exact ⟨true, c2, true, c6, c8, c10, false, r12, x0, .map (some k), x7, k, rfl, rfl, ⟨k1.on I.bel g1, fun _ => ⟨rfl, g1, (M1.mono (by cases c2 <;> cases c6 <;> cases c8 <;> cases c10 <;> decide)).eqv (ldF_4 _ _ _ _)⟩, (fun h => by cases h), (fun h => by cases h), fun h => absurd (I.R h).2 (by decide)⟩⟩
  | 5, _ =>
   exact absurd (show true = false from hun) (by decide)
  | 6, _ =>
   obtain rfl : c6 = false := hun
   obtain ⟨o2, ho2, hall⟩ := hall
   cases ho2
   obtain rfl : m0 = true := hall ⟨0, .data⟩ (by simp) rfl
   clear hall
   cases ho
   obtain ⟨e1, g1, M⟩ := I.A rfl
   subst e1
   have hv : v11 = false := by cases v11 with | false => rfl | true => (have h := I.V rfl; simp at h)
   subst hv
   refine mm_ins (by rfl) rfl rfl rfl rfl M (by cases c2 <;> cases c4 <;> cases c8 <;> cases c10 <;> decide) ⟨by decide, by decide⟩ ⟨by decide, by decide⟩ ⟨by decide, by decide⟩ ?_
   intro w2 M1 k1
   simp only [Act.put]
   refine hK.out _ _ ?_
   exact ⟨true, c2, c4, true, c8, c10, false, r12, x0, .map (some k), x7, k, rfl, rfl, ⟨k1.on I.bel g1, fun _ => ⟨rfl, g1, (M1.mono (by cases c2 <;> cases c4 <;> cases c8 <;> cases c10 <;> decide)).eqv (ldF_6 _ _ _ _)⟩, (fun h => by cases h), (fun h => by cases h), fun h => absurd (I.R h).2 (by decide)⟩⟩
  | 7, _ =>
   exact absurd (show true = false from hun) (by decide)
  | 8, _ =>
   obtain rfl : c8 = false := hun
   obtain ⟨o2, ho2, hall⟩ := hall
   cases ho2
   obtain rfl : m0 = true := hall ⟨0, .data⟩ (by simp) rfl
   clear hall
   cases ho
   obtain ⟨e1, g1, M⟩ := I.A rfl
   subst e1
   have hv : v11 = false := by cases v11 with | false => rfl | true => (have h := I.V rfl; simp at h)
   subst hv
   refine mm_ins (by rfl) rfl rfl rfl rfl M (by cases c2 <;> cases c4 <;> cases c6 <;> cases c10 <;> decide) ⟨by decide, by decide⟩ ⟨by decide, by decide⟩ ⟨by decide, by decide⟩ ?_
   intro w2 M1 k1
   simp only [Act.put]
   refine hK.out _ _ ?_
   exact ⟨true, c2, c4, c6, true, c10, false, r12, x0, .map (some k), x7, k, rfl, rfl, ⟨k1.on I.bel g1, fun _ => ⟨rfl, g1, (M1.mono (by cases c2 <;> cases c4 <;> cases c6 <;> cases c10 <;> decide)).eqv (ldF_8 _ _ _ _)⟩, (fun h => by cases h), (fun h => by cases h), fun h => absurd (I.R h).2 (by decide)⟩⟩
  | 9, _ =>
   exact absurd (show true = false from hun) (by decide)
  | 10, _ =>
   obtain rfl : c10 = false := hun
   obtain ⟨o2, ho2, hall⟩ := hall
   cases ho2
   obtain rfl : m0 = true := hall ⟨0, .data⟩ (by simp) rfl
   clear hall
   cases ho
   obtain ⟨e1, g1, M⟩ := I.A rfl
   subst e1
   have hv : v11 = false := by cases v11 with | false => rfl | true => (have h := I.V rfl; simp at h)
   subst hv
   refine mm_ins (by rfl) rfl rfl rfl rfl M (by cases c2 <;> cases c4 <;> cases c6 <;> cases c8 <;> decide) ⟨by decide, by decide⟩ ⟨by decide, by decide⟩ ⟨by decide, by decide⟩ ?_
   intro w2 M1 k1
   simp only [Act.put]
   refine hK.out _ _ ?_
   exact ⟨true, c2, c4, c6, c8, true, false, r12, x0, .map (some k), x7, k, rfl, rfl, ⟨k1.on I.bel g1, fun _ => ⟨rfl, g1, (M1.mono (by cases c2 <;> cases c4 <;> cases c6 <;> cases c8 <;> decide)).eqv (ldF_10 _ _ _ _)⟩, (fun h => by cases h), (fun h => by cases h), fun h => absurd (I.R h).2 (by decide)⟩⟩
  | 11, _ =>
   obtain rfl : v11 = false := hun
   obtain ⟨o2, ho2, hall⟩ := hall
   cases ho2
   obtain rfl : m0 = true := hall ⟨0, .data⟩ (by simp) rfl
   obtain rfl : c2 = true := hall ⟨2, .data⟩ (by simp) rfl
   obtain rfl : c4 = true := hall ⟨4, .data⟩ (by simp) rfl
   obtain rfl : c6 = true := hall ⟨6, .data⟩ (by simp) rfl
   obtain rfl : c8 = true := hall ⟨8, .data⟩ (by simp) rfl
   obtain rfl : c10 = true := hall ⟨10, .data⟩ (by simp) rfl
   clear hall
   cases ho
   obtain ⟨e1, g1, M⟩ := I.A rfl
   subst e1
   go_simp
   refine hK.out _ _ ?_
   exact ⟨true, true, true, true, true, true, true, r12, x0, .map (some k), .map (some k), k, rfl, rfl, ⟨I.bel, fun _ => ⟨rfl, g1, M⟩, (fun h => by cases h), fun _ => ⟨rfl, rfl, rfl, rfl, rfl, rfl⟩, fun h => ⟨(I.R h).1, rfl⟩⟩⟩
  | 12, _ =>
   obtain rfl : r12 = false := hun
   obtain ⟨o2, ho2, hall⟩ := hall
   cases ho2
   obtain rfl : v11 = true := hall ⟨11, .data⟩ (by simp) rfl
   clear hall
   cases ho
   obtain ⟨e1, rfl, rfl, rfl, rfl, rfl⟩ := I.V rfl
   subst e1
   go_simp
   refine hK.out _ _ ?_
   exact ⟨m0, true, true, true, true, true, true, true, .map (some k), x1, .map (some k), k, rfl, rfl, ⟨I.bel, I.A, I.va, I.V, fun _ => ⟨rfl, rfl⟩⟩⟩
 ·intro L a wi hr hI
  obtain ⟨m0, c2, c4, c6, c8, c10, v11, r12, x0, x1, x7, k, rfl, rfl, I⟩ := hI
  obtain rfl : m0 = true := by cases m0 with | true => rfl | false => exact (no_ready hr (i := 0) rfl rfl rfl).elim
  obtain rfl : c2 = true := by cases c2 with | true => rfl | false => exact (no_ready hr (i := 2) rfl rfl rfl).elim
  obtain rfl : c4 = true := by cases c4 with | true => rfl | false => exact (no_ready hr (i := 4) rfl rfl rfl).elim
  obtain rfl : c6 = true := by cases c6 with | true => rfl | false => exact (no_ready hr (i := 6) rfl rfl rfl).elim
  obtain rfl : c8 = true := by cases c8 with | true => rfl | false => exact (no_ready hr (i := 8) rfl rfl rfl).elim
  obtain rfl : c10 = true := by cases c10 with | true => rfl | false => exact (no_ready hr (i := 10) rfl rfl rfl).elim
  obtain rfl : v11 = true := by cases v11 with | true => rfl | false => exact (no_ready hr (i := 11) rfl rfl rfl).elim
  obtain rfl : r12 = true := by cases r12 with | true => rfl | false => exact (no_ready hr (i := 12) rfl rfl rfl).elim
  obtain ⟨e1, g1, M⟩ := I.A rfl
  obtain ⟨e0, -⟩ := I.R rfl
  subst e0
  refine put_cont hKK ?_
  exact cont _ k _ _ _ _ _ _ _ (bel_then K1 I.bel) (Nat.le_trans l1 g1) M
 ·exact ⟨false, false, false, false, false, false, false, false, _, _, _, 0, rfl, rfl, ⟨Below.refl _ _, (fun h => by cases h), fun _ => ⟨rfl, rfl, rfl, rfl, rfl, rfl⟩, (fun h => by cases h), (fun h => by cases h)⟩⟩
end Go.Proofs.YtbophanlmkbfeaaGreatDoor
namespace Go.Proofs.YtbophanlmkbfeaaGreatDoor
open Go.RowKit
structure Pl where
 mode : Int
 calm : Int
 good : Int
 miss : Int
 lost : Int
 faults : Int
structure Sn where
 gap : Bool
 gyro : Bool
 slow : Bool
 pair : Bool
 lit : Bool
 bad : Bool
 pass : Bool
 order : Int
def plV (p : Pl) : Value := .agg #[.int .i64 p.mode, .int .i64 p.calm, .int .i64 p.good, .int .i64 p.miss, .int .i64 p.lost, .int .i64 p.faults]
def snV (s : Sn) : Value := .agg #[.bool s.gap, .bool s.gyro, .bool s.slow, .bool s.pair, .bool s.lit, .bool s.bad, .bool s.pass, .int .i64 s.order]
def goS (k : Int) (p : Pl) : Pl := ⟨k, 0, 0, 0, 0, p.faults⟩
def failS (x : Int) (p : Pl) : Pl := ⟨1, 0, 0, 0, 0, bits .or .i64 p.faults x⟩
def safeS (p : Pl) (s : Sn) : Pl := if s.order = 2 then ⟨0, 0, 0, 0, 0, 0⟩ else p
theorem Pl.ext {a b c d e f a' b' c' d' e' f' : Int} (h0 : a = a') (h1 : b = b') (h2 : c = c') (h3 : d = d') (h4 : e = e') (h5 : f = f') : (⟨a, b, c, d, e, f⟩ : Pl) = ⟨a', b', c', d', e', f'⟩ := by subst h0 h1 h2 h3 h4 h5; rfl
end Go.Proofs.YtbophanlmkbfeaaGreatDoor
namespace Go.Proofs.YtbophanlmkbfeaaGreatDoor
open Go.RowKit
def cPl : Dc Pl where
 enc p := plV p
 dec v := match v with
  | .agg ⟨[.int .i64 a, .int .i64 b, .int .i64 c, .int .i64 d, .int .i64 e, .int .i64 f]⟩ => some ⟨a, b, c, d, e, f⟩
  | _ => none
 law v x h := by
  split at h
  ·cases h; rfl
  ·cases h
 np _ := rfl
def cSn : Dc Sn where
 enc s := snV s
 dec v := match v with
  | .agg ⟨[.bool a, .bool b, .bool c, .bool d, .bool e, .bool f, .bool g, .int .i64 o]⟩ => some ⟨a, b, c, d, e, f, g, o⟩
  | _ => none
 law v x h := by
  split at h
  ·cases h; rfl
  ·cases h
 np _ := rfl
abbrev Fp := { q : Int × Pl // decide (ldF true true true true true q.2.mode q.1 = 1) = true }
def lFp : Dl Fp where
 enc q := [.int .i64 q.1.1, plV q.1.2]
 dec l := match l with
  | [.int .i64 x, .agg ⟨[.int .i64 a, .int .i64 b, .int .i64 c, .int .i64 d, .int .i64 e, .int .i64 f]⟩] => if h : decide (ldF true true true true true a x = 1) = true then some ⟨(x, ⟨a, b, c, d, e, f⟩), h⟩ else none
  | _ => none
 law v x h := by
  split at h
  ·split at h
   ·cases h; rfl
   ·cases h
  ·cases h
 np x v hv := by
  simp only [List.mem_cons, List.not_mem_nil, or_false] at hv
  rcases hv with rfl | rfl <;> rfl
def cP2 : Dc { p : Pl // decide (p.mode = 2) = true } where
 enc p := plV p.1
 dec v := match v with
  | .agg ⟨[.int .i64 a, .int .i64 b, .int .i64 c, .int .i64 d, .int .i64 e, .int .i64 f]⟩ => if h : decide (a = 2) = true then some ⟨⟨a, b, c, d, e, f⟩, h⟩ else none
  | _ => none
 law v x h := by
  split at h
  ·split at h
   ·cases h; rfl
   ·cases h
  ·cases h
 np _ := rfl
def cntW (n : Int) (it : Bool) : Int := if it then if 100 ≤ n then 100 else IntKind.i64.wrap (n + 1) else 0
def detW (p : Pl) (s : Sn) : Pl := if 3 ≤ cntW p.calm (s.gyro && s.slow) then goS 1 p else ⟨p.mode, cntW p.calm (s.gyro && s.slow), p.good, p.miss, p.lost, p.faults⟩
def coaW (p : Pl) (s : Sn) : Pl := bif s.gyro && !s.slow then goS 0 p else if 2 ≤ cntW p.good (s.gyro && s.pair && s.lit) then goS 2 p else ⟨p.mode, p.calm, cntW p.good (s.gyro && s.pair && s.lit), p.miss, p.lost, p.faults⟩
def finW (p : Pl) (s : Sn) : Pl := bif s.bad then failS 4 p else if 3 ≤ cntW p.lost (!s.gyro) then failS 2 p else
 bif s.pair && s.lit then (if 5 ≤ cntW p.miss (!s.pass) then failS 8 p else ⟨p.mode, p.calm, p.good, cntW p.miss (!s.pass), cntW p.lost (!s.gyro), p.faults⟩) else ⟨p.mode, p.calm, p.good, p.miss, cntW p.lost (!s.gyro), p.faults⟩
def nextV (p : Pl) (s : Sn) : Pl := if p.mode = 3 then safeS p s else if p.mode = 0 then detW p s else
 if p.mode = 1 then (bif s.gap then failS 1 p else coaW p s) else if p.mode = 2 then (bif s.gap then failS 1 p else finW p s) else goS 3 p
def nextW (p : Pl) (s : Sn) : Pl := if s.order = 1 then goS 3 p else nextV p s
theorem cntW_f (n : Int) : cntW n false = 0 := rfl
theorem if_3 {α : Type} {A B : α} : (if (3 : Int) ≤ 0 then A else B) = B := if_neg (by decide)
end Go.Proofs.YtbophanlmkbfeaaGreatDoor
namespace Go.Proofs.YtbophanlmkbfeaaGreatDoor
open Go.RowKit
set_option maxRecDepth 100000
set_option maxHeartbeats 20000000
theorem mmix : Tryz.prog.follows .mixedOrders = true := by kernel_rfl
theorem counted_fx : PureOk Tryz.prog 197 (then' cI (lone' cB)) (fun x => cntW x.1 x.2) cI := pure_sx (tbl := []) (dirty := fun _ => []) (n := 8) mmix Tryz.func197 rfl (fun x Post => by
    refine Eq.trans (b := ?m) ?x (Eq.symm ?y)
    case y => unfold cntW; simp only [← vif_le (K := PJ cI Post), ← vif_bn (K := PJ cI Post)]; exact rfl
    case x => kernel_rfl)
def ctcounted : Ct Tryz.prog := pureCt Tryz.prog 197 (then' cI (lone' cB)) (fun x => cntW x.1 x.2) cI (go_of Tryz.func197 (by kernel_rfl) (by kernel_rfl)) counted_fx
theorem goTo_fx : PureOk Tryz.prog 129 (then' cI (lone' cPl)) (fun x => goS x.1 x.2) cPl := pure_sx (tbl := []) (dirty := fun _ => []) (n := 8) mmix Tryz.func129 rfl (fun x Post => by kernel_rfl)
def ctgoTo : Ct Tryz.prog := pureCt Tryz.prog 129 (then' cI (lone' cPl)) (fun x => goS x.1 x.2) cPl (go_of Tryz.func129 (by kernel_rfl) (by kernel_rfl)) goTo_fx
theorem safe_fx : PureOk Tryz.prog 130 (then' cPl (lone' cSn)) (fun x => safeS x.1 x.2) cPl := pure_sx (tbl := [ctgoTo]) (dirty := fun _ => []) (n := 8) mmix Tryz.func130 rfl (fun x Post => by
    refine Eq.trans (b := ?m) ?x (Eq.symm ?y)
    case y => unfold safeS; simp only [← vif_ne (K := PJ cPl Post)]; exact rfl
    case x => kernel_rfl)
def ctsafe : Ct Tryz.prog := pureCt Tryz.prog 130 (then' cPl (lone' cSn)) (fun x => safeS x.1 x.2) cPl (go_of Tryz.func130 (by kernel_rfl) (by kernel_rfl)) safe_fx
theorem det_fx : PureOk Tryz.prog 131 (then' cPl (lone' cSn)) (fun x => detW x.1 x.2) cPl := pure_sx (tbl := [ctcounted, ctgoTo]) (dirty := fun _ => []) (n := 8) mmix Tryz.func131 rfl (fun x Post => by
    obtain ⟨p, a, b, c, d, e, f, g, o⟩ := x
    refine Eq.trans (b := ?m) ?x (Eq.symm ?y)
    case y => unfold detW; simp only [← vif_le (K := PJ cPl Post)]; exact rfl
    case x => cases b <;> cases c <;> kernel_rfl)
def ctdet : Ct Tryz.prog := pureCt Tryz.prog 131 (then' cPl (lone' cSn)) (fun x => detW x.1 x.2) cPl (go_of Tryz.func131 (by kernel_rfl) (by kernel_rfl)) det_fx
theorem coa_fx : PureOk Tryz.prog 133 (then' cPl (lone' cSn)) (fun x => coaW x.1 x.2) cPl := pure_sx (tbl := [ctcounted, ctgoTo]) (dirty := fun _ => []) (n := 8) mmix Tryz.func133 rfl (fun x Post => by
    obtain ⟨p, a, b, c, d, e, f, g, o⟩ := x
    cases b
    · refine Eq.trans (b := ?m1) ?x1 (Eq.symm ?y1)
      case y1 => unfold coaW; simp only [Bool.false_and, cond_false, ← vif_le (K := PJ cPl Post)]; exact rfl
      case x1 => kernel_rfl
    cases c
    · kernel_rfl
    cases d
    · refine Eq.trans (b := ?m2) ?x2 (Eq.symm ?y2)
      case y2 => unfold coaW; simp only [Bool.true_and, Bool.not_true, Bool.false_and, cond_false, ← vif_le (K := PJ cPl Post)]; exact rfl
      case x2 => kernel_rfl
    cases e
    · refine Eq.trans (b := ?m3) ?x3 (Eq.symm ?y3)
      case y3 => unfold coaW; simp only [Bool.true_and, Bool.not_true, cond_false, ← vif_le (K := PJ cPl Post)]; exact rfl
      case x3 => kernel_rfl
    · refine Eq.trans (b := ?m4) ?x4 (Eq.symm ?y4)
      case y4 => unfold coaW; simp only [Bool.true_and, Bool.not_true, cond_false, ← vif_le (K := PJ cPl Post)]; exact rfl
      case x4 => kernel_rfl)
def ctcoa : Ct Tryz.prog := pureCt Tryz.prog 133 (then' cPl (lone' cSn)) (fun x => coaW x.1 x.2) cPl (go_of Tryz.func133 (by kernel_rfl) (by kernel_rfl)) coa_fx
theorem goTo_any (k m c g i l f : Int) (w : World) : Calls Tryz.prog 129 #[.int .i64 k, .agg #[.int .i64 m, .int .i64 c, .int .i64 g, .int .i64 i, .int .i64 l, .int .i64 f]] w fun e w' => e = .returned (.agg #[.int .i64 k, .int .i64 0, .int .i64 0, .int .i64 0, .int .i64 0, .int .i64 f]) ∧ Below w.heap.size w w' := by
 go_enter Tryz.func129, Tryz.ntmps129
 go_wp2_with (with_reducible refine post_stop ?_)
 exact ⟨bodyPost_ret (v := .agg #[.int .i64 k, .int .i64 0, .int .i64 0, .int .i64 0, .int .i64 0, .int .i64 f]) (by simp [results, Tryz.results129, go_sem]) rfl ⟨rfl, bel_al (bel_al (Below.refl _ _) _) _⟩⟩
theorem fail_any (x m c g i l f : Int) (w : World) (hx : I64 x) (hm : I64 m) (hl : ldF true true true true true m x = 1) : Calls Tryz.prog 132 #[.int .i64 x, .agg #[.int .i64 m, .int .i64 c, .int .i64 g, .int .i64 i, .int .i64 l, .int .i64 f]] w fun e w' => e = .returned (.agg #[.int .i64 1, .int .i64 0, .int .i64 0, .int .i64 0, .int .i64 0, .int .i64 (bits .or .i64 f x)]) ∧ Below w.heap.size w w' := by
 go_enter Tryz.func132, Tryz.ntmps132
 go_wp2_with fail
 have A0 : Arr w.heap.size [.int .i64 m, .int .i64 c, .int .i64 g, .int .i64 i, .int .i64 l, .int .i64 (bits .or .i64 f x)] ((w.alloc (.cells #[.int .i64 m, .int .i64 c, .int .i64 g, .int .i64 i, .int .i64 l, .int .i64 (bits .or .i64 f x)] 26)).alloc (.cells #[.int .i64 0, .int .i64 0, .int .i64 0, .int .i64 0, .int .i64 0, .int .i64 0] 26)).drew := ((Arr_at w _ [.int .i64 m, .int .i64 c, .int .i64 g, .int .i64 i, .int .i64 l, .int .i64 (bits .or .i64 f x)] 26 rfl).alloc _).drew
 have A1 : Arr (w.heap.size + 1) [.int .i64 0, .int .i64 0, .int .i64 0, .int .i64 0, .int .i64 0, .int .i64 0] ((w.alloc (.cells #[.int .i64 m, .int .i64 c, .int .i64 g, .int .i64 i, .int .i64 l, .int .i64 (bits .or .i64 f x)] 26)).alloc (.cells #[.int .i64 0, .int .i64 0, .int .i64 0, .int .i64 0, .int .i64 0, .int .i64 0] 26)).drew := (Arr_at _ _ [.int .i64 0, .int .i64 0, .int .i64 0, .int .i64 0, .int .i64 0, .int .i64 0] 26 (by simp)).drew
 have K0 : Below w.heap.size w ((w.alloc (.cells #[.int .i64 m, .int .i64 c, .int .i64 g, .int .i64 i, .int .i64 l, .int .i64 (bits .or .i64 f x)] 26)).alloc (.cells #[.int .i64 0, .int .i64 0, .int .i64 0, .int .i64 0, .int .i64 0, .int .i64 0] 26)).drew := Below.drew (bel_al (bel_al (Below.refl _ _) _) _)
 refine wp_region_held_drew (S := fun w' => Arr w.heap.size [.int .i64 m, .int .i64 c, .int .i64 g, .int .i64 i, .int .i64 l, .int .i64 (bits .or .i64 f x)] w') (by kernel_rfl) A0 (fun zH => ?_)
 generalize ((w.alloc (.cells #[.int .i64 m, .int .i64 c, .int .i64 g, .int .i64 i, .int .i64 l, .int .i64 (bits .or .i64 f x)] 26)).alloc (.cells #[.int .i64 0, .int .i64 0, .int .i64 0, .int .i64 0, .int .i64 0, .int .i64 0] 26)).drew = w0 at *
 refine zT 1 rfl (by kernel_rfl) (fun _ _ _ => id) rfl (fun _ _ => by go_simp <;> with_reducible rfl) zH ?_
 simp only [Act.put, zA, zB, zC]
 refine zT 2 rfl (by kernel_rfl) (fun _ _ _ => id) rfl (fun wx hS => by have cw_0 : wx.cell? ⟨w.heap.size, 0, none⟩ = some (.int .i64 m) := hS.c 0 (zD rfl); have cw_1 : wx.cell? ⟨w.heap.size, 1, none⟩ = some (.int .i64 c) := hS.c 1 (zD rfl); have cw_2 : wx.cell? ⟨w.heap.size, 2, none⟩ = some (.int .i64 g) := hS.c 2 (zD rfl); have cw_3 : wx.cell? ⟨w.heap.size, 3, none⟩ = some (.int .i64 i) := hS.c 3 (zD rfl); have cw_4 : wx.cell? ⟨w.heap.size, 4, none⟩ = some (.int .i64 l) := hS.c 4 (zD rfl); have cw_5 : wx.cell? ⟨w.heap.size, 5, none⟩ = some (.int .i64 (bits .or .i64 f x)) := hS.c 5 (zD rfl); go_simp <;> with_reducible rfl) zH ?_
 simp only [Act.put, zA, zB, zC]
 refine zT 3 rfl (by kernel_rfl) (fun _ _ _ => id) rfl (fun _ _ => by go_simp <;> with_reducible rfl) zH ?_
 simp only [Act.put, zA, zB, zC]
 refine zT 4 rfl (by kernel_rfl) (fun _ _ _ => id) rfl (fun _ _ => by go_simp <;> with_reducible rfl) zH ?_
 simp only [Act.put, zA, zB, zC]
 refine zT 6 rfl (by kernel_rfl) (fun _ _ _ => id) rfl (fun wx hS => by have cw_0 : wx.cell? ⟨w.heap.size, 0, none⟩ = some (.int .i64 m) := hS.c 0 (zD rfl); have cw_1 : wx.cell? ⟨w.heap.size, 1, none⟩ = some (.int .i64 c) := hS.c 1 (zD rfl); have cw_2 : wx.cell? ⟨w.heap.size, 2, none⟩ = some (.int .i64 g) := hS.c 2 (zD rfl); have cw_3 : wx.cell? ⟨w.heap.size, 3, none⟩ = some (.int .i64 i) := hS.c 3 (zD rfl); have cw_4 : wx.cell? ⟨w.heap.size, 4, none⟩ = some (.int .i64 l) := hS.c 4 (zD rfl); have cw_5 : wx.cell? ⟨w.heap.size, 5, none⟩ = some (.int .i64 (bits .or .i64 f x)) := hS.c 5 (zD rfl); go_simp <;> with_reducible rfl) zH ?_
 simp only [Act.put, zA, zB, zC]
 refine zK 0 (by kernel_rfl) rfl (fun K hK => ?_)
 go_simp
 refine (leads_any _).mono ?_
 rintro e w1 ⟨k, rfl, hk, M, b1⟩
 have A0_1 := A0.below b1
 have A1_1 := A1.below b1
 have K1 := bel_then K0 b1
 clear zH
 refine hK.out _ _ A0_1 (fun zH => ?_)
 clear hK K A0 A1 K0
 have Lk := M.look hm hx
 rw [hl] at Lk
 refine zK 5 (by kernel_rfl) rfl (fun K hK => ?_)
 go_simp
 refine hK.out _ _ A0_1 (fun zH => ?_)
 clear hK K Lk
 refine zK 7 (by kernel_rfl) rfl (fun K hK => ?_)
 go_simp
 refine (goTo_any 1 m c g i l (bits .or .i64 f x) _).mono ?_
 rintro e w2 ⟨rfl, b2⟩
 have A0_2 := A0_1.below b2
 have A1_2 := A1_1.below b2
 have K2 := bel_then K1 b2
 clear zH
 refine hK.out _ _ A0_2 (fun zH => ?_)
 clear hK K A0_1 A1_1 K1
 have cz_0 : w2.cell? ⟨(w.heap.size + 1), 0, none⟩ = some (.int .i64 0) := A1_2.c 0 (zD rfl)
 have gz_0 := A1_2.f 0 (zD rfl)
 have cz_1 : w2.cell? ⟨(w.heap.size + 1), 1, none⟩ = some (.int .i64 0) := A1_2.c 1 (zD rfl)
 have gz_1 := A1_2.f 1 (zD rfl)
 have cz_2 : w2.cell? ⟨(w.heap.size + 1), 2, none⟩ = some (.int .i64 0) := A1_2.c 2 (zD rfl)
 have gz_2 := A1_2.f 2 (zD rfl)
 have cz_3 : w2.cell? ⟨(w.heap.size + 1), 3, none⟩ = some (.int .i64 0) := A1_2.c 3 (zD rfl)
 have gz_3 := A1_2.f 3 (zD rfl)
 have cz_4 : w2.cell? ⟨(w.heap.size + 1), 4, none⟩ = some (.int .i64 0) := A1_2.c 4 (zD rfl)
 have gz_4 := A1_2.f 4 (zD rfl)
 have cz_5 : w2.cell? ⟨(w.heap.size + 1), 5, none⟩ = some (.int .i64 0) := A1_2.c 5 (zD rfl)
 have gz_5 := A1_2.f 5 (zD rfl)
 have l2 := A1_2.lies
 refine zK 8 (by kernel_rfl) rfl (fun K hK => ?_)
 go_simp
 refine hK.out _ _ ((((((A0_2.new (w.heap.size + 1) 0 (by omega) (.int .i64 1)).new (w.heap.size + 1) 1 (by omega) (.int .i64 0)).new (w.heap.size + 1) 2 (by omega) (.int .i64 0)).new (w.heap.size + 1) 3 (by omega) (.int .i64 0)).new (w.heap.size + 1) 4 (by omega) (.int .i64 0)).new (w.heap.size + 1) 5 (by omega) (.int .i64 (bits .or .i64 f x))) (fun zH => ?_)
 refine wpAnyH_done (by kernel_rfl) ?_ _
 have A1_3 := ((((((A1_2.put 0 (zD rfl) (.int .i64 1) [.int .i64 1, .int .i64 0, .int .i64 0, .int .i64 0, .int .i64 0, .int .i64 0] rfl).put 1 (zD rfl) (.int .i64 0) [.int .i64 1, .int .i64 0, .int .i64 0, .int .i64 0, .int .i64 0, .int .i64 0] rfl).put 2 (zD rfl) (.int .i64 0) [.int .i64 1, .int .i64 0, .int .i64 0, .int .i64 0, .int .i64 0, .int .i64 0] rfl).put 3 (zD rfl) (.int .i64 0) [.int .i64 1, .int .i64 0, .int .i64 0, .int .i64 0, .int .i64 0, .int .i64 0] rfl).put 4 (zD rfl) (.int .i64 0) [.int .i64 1, .int .i64 0, .int .i64 0, .int .i64 0, .int .i64 0, .int .i64 0] rfl).put 5 (zD rfl) (.int .i64 (bits .or .i64 f x)) [.int .i64 1, .int .i64 0, .int .i64 0, .int .i64 0, .int .i64 0, .int .i64 (bits .or .i64 f x)] rfl)
 have K3 := (bel_new (bel_new (bel_new (bel_new (bel_new (bel_new K2 (w.heap.size + 1) 0 (by omega) (.int .i64 1)) (w.heap.size + 1) 1 (by omega) (.int .i64 0)) (w.heap.size + 1) 2 (by omega) (.int .i64 0)) (w.heap.size + 1) 3 (by omega) (.int .i64 0)) (w.heap.size + 1) 4 (by omega) (.int .i64 0)) (w.heap.size + 1) 5 (by omega) (.int .i64 (bits .or .i64 f x)))
 clear zH hK K
 go_wp2_with (with_reducible refine post_stop ?_)
 exact ⟨bodyPost_ret (v := .agg #[.int .i64 1, .int .i64 0, .int .i64 0, .int .i64 0, .int .i64 0, .int .i64 (bits .or .i64 f x)]) (results_arr Tryz.results132 A1_3 rfl (by kernel_rfl) (by kernel_rfl)) rfl ⟨rfl, K3⟩⟩
theorem fp_in {m x : Int} (h : decide (ldF true true true true true m x = 1) = true) : I64 x ∧ I64 m ∧ ldF true true true true true m x = 1 := by
 have h := of_decide_eq_true h
 refine ⟨?_, ?_, h⟩
 all_goals
  unfold ldF at h
  split at h
  ·rename_i c
   exact ⟨by omega, by omega⟩
  ·omega
theorem fail_fx : PureOk Tryz.prog 132 lFp (fun q => failS q.1.1 q.1.2) cPl := fun q w _ => fail_any q.1.1 q.1.2.mode q.1.2.calm q.1.2.good q.1.2.miss q.1.2.lost q.1.2.faults w (fp_in q.2).1 (fp_in q.2).2.1 (fp_in q.2).2.2
def ctfail : Ct Tryz.prog := pureCt Tryz.prog 132 lFp (fun q => failS q.1.1 q.1.2) cPl (go_of Tryz.func132 (by kernel_rfl) (by kernel_rfl)) fail_fx
theorem fin_fx : PureOk Tryz.prog 134 (then' cP2 (lone' cSn)) (fun x => finW x.1.1 x.2) cPl := pure_sx (tbl := [ctcounted, ctfail]) (dirty := fun _ => []) (n := 8) mmix Tryz.func134 rfl (fun x Post => by
    obtain ⟨⟨⟨M, c, g, i, l, f⟩, hM⟩, a, gyro, b, pair, lit, bad, pass, o⟩ := x
    have hM := of_decide_eq_true hM
    dsimp only at hM
    subst hM
    cases bad
    · cases gyro
      · cases pair
        · refine Eq.trans (b := ?m21) ?x21 (Eq.symm ?y21)
          case y21 => unfold finW failS; simp only [cond_false, Bool.not_false, Bool.false_and, ← vif_le (K := PJ cPl Post)]; exact rfl
          case x21 => kernel_rfl
        cases lit
        · refine Eq.trans (b := ?m22) ?x22 (Eq.symm ?y22)
          case y22 => unfold finW failS; simp only [cond_false, Bool.not_false, Bool.and_false, ← vif_le (K := PJ cPl Post)]; exact rfl
          case x22 => kernel_rfl
        · refine Eq.trans (b := ?m23) ?x23 (Eq.symm ?y23)
          case y23 => unfold finW failS; simp only [cond_false, cond_true, Bool.not_false, Bool.and_true, ← vif_le (K := PJ cPl Post)]; exact rfl
          case x23 => kernel_rfl
      · cases pair
        · refine Eq.trans (b := ?m24) ?x24 (Eq.symm ?y24)
          case y24 => unfold finW failS; simp only [cond_false, Bool.not_true, Bool.false_and, cntW_f, if_3]; exact rfl
          case x24 => kernel_rfl
        cases lit
        · refine Eq.trans (b := ?m25) ?x25 (Eq.symm ?y25)
          case y25 => unfold finW failS; simp only [cond_false, Bool.not_true, Bool.and_false, cntW_f, if_3]; exact rfl
          case x25 => kernel_rfl
        · refine Eq.trans (b := ?m26) ?x26 (Eq.symm ?y26)
          case y26 => unfold finW failS; simp only [cond_false, cond_true, Bool.not_true, Bool.and_true, cntW_f, if_3, ← vif_le (K := PJ cPl Post)]; exact rfl
          case x26 => kernel_rfl
    · show _ = _
      kernel_rfl)
def ctfin : Ct Tryz.prog := pureCt Tryz.prog 134 (then' cP2 (lone' cSn)) (fun x => finW x.1.1 x.2) cPl (go_of Tryz.func134 (by kernel_rfl) (by kernel_rfl)) fin_fx
theorem next_fx : PureOk Tryz.prog 60 (then' cPl (lone' cSn)) (fun x => nextW x.1 x.2) cPl := pure_sx (tbl := [ctgoTo, ctsafe, ctdet, ctfail, ctcoa, ctfin]) (dirty := fun _ => []) (n := 8) mmix Tryz.func60 rfl (fun x Post => by
    obtain ⟨⟨M, c, g, i, l, f⟩, gap, gyro, slow, pair, lit, bad, pass, o⟩ := x
    refine Eq.trans (b := vif (decide (o = 1)) (PJ cPl Post (goS 3 ⟨M, c, g, i, l, f⟩)) (PJ cPl Post (nextV ⟨M, c, g, i, l, f⟩ ⟨gap, gyro, slow, pair, lit, bad, pass, o⟩))) ?x vif_eq
    rcases M with n | n
    · rcases n with _ | _ | _ | _ | n
      · show _ = _; kernel_rfl
      · cases gap <;> (show _ = _; kernel_rfl)
      · cases gap <;> (show _ = _; kernel_rfl)
      · show _ = _; kernel_rfl
      · show _ = _; kernel_rfl
    · show _ = _; kernel_rfl)
end Go.Proofs.YtbophanlmkbfeaaGreatDoor
namespace Go.Proofs.YtbophanlmkbfeaaGreatDoor
open Go.RowKit
theorem sz_signs (a p : Int) : (sz a * sz p = if (decide (a < 0) != decide (p < 0)) = true then -(a * p) else a * p) := by
 unfold sz
 by_cases x : a < 0 <;> by_cases y : p < 0 <;> simp [x, y] <;> grind
theorem partS_near (a p q : Int) (na : numB a = true) (np : numB p = true) (nq : numB q = true) (hq : 0 < q) (hb : sz a * sz p ≤ q * 2305843009213693952) :
    ∃ m, partS false a p q = (m, false) ∧ 2 * (m * q) ≤ 2 * (a * p) + q ∧ 2 * (a * p) ≤ 2 * (m * q) + q ∧ (0 ≤ a * p → 0 ≤ m) := by
 have e := partS_yes (bad := false) (a := a) (p := p) (q := q) (by unfold tk; simp [na, np, nq]) (by simp; omega)
 have sq : sz q = q := sz_nonneg (by omega)
 have nr := rnd_near (sz a * sz p) q (by omega)
 have n0 : 0 ≤ sz a * sz p := (sz_mul_bd na np).1
 have r0 : 0 ≤ rnd (sz a * sz p) q := rnd_nonneg n0 (by omega)
 have sg := sz_signs a p
 rw [sq, decide_eq_false (by omega : ¬ q < 0)] at e
 generalize rnd (sz a * sz p) q = r at *
 generalize sz a * sz p = n at *
 have r1 : r ≤ 4611686018427387904 := by
  by_cases c : r ≤ 4611686018427387904
  ·exact c
  ·have := Int.mul_le_mul_of_nonneg_right (by omega : (4611686018427387905 : Int) ≤ r) (by omega : 0 ≤ q)
   omega
 rw [show ((decide (a < 0) != decide (p < 0)) != false) = (decide (a < 0) != decide (p < 0)) by simp] at e
 generalize (decide (a < 0) != decide (p < 0)) = s at *
 have e2 : out r s = (if s = true then -r else r, false) := by
  unfold out
  rw [← sgnd_in r s r1, decide_eq_false (by omega)]
 rw [e2] at e
 refine ⟨_, e, ?_⟩
 have rz : r = 0 → r * q = 0 := fun h => by rw [h, Int.zero_mul]
 cases s
 ·simp only [Bool.false_eq_true, if_false] at sg ⊢
  refine ⟨by omega, by omega, fun _ => r0⟩
 ·simp only [if_true] at sg ⊢
  rw [Int.neg_mul]
  refine ⟨by omega, by omega, fun h => ?_⟩
  have n1 : n = 0 := by omega
  have h2 : r * q ≤ q / 2 := by omega
  by_cases c : r ≤ 0
  ·omega
  ·have := Int.mul_le_mul_of_nonneg_right (by omega : (1 : Int) ≤ r) (by omega : 0 ≤ q)
   omega
theorem mulS_near (a b : Int) (na : numB a = true) (nb : numB b = true) (hb : sz a * sz b ≤ 2535301200456458802993406410752) :
    ∃ m, mulS false a b = (m, false) ∧ m * 1099511627776 ≤ a * b + 549755813888 ∧ a * b ≤ m * 1099511627776 + 549755813888 ∧ (0 ≤ a * b → 0 ≤ m) := by
 obtain ⟨m, e, h1, h2, h3⟩ := partS_near a b 1099511627776 na nb (by rfl) (by decide) (by omega)
 exact ⟨m, e, by omega, by omega, h3⟩
theorem le_sz (a : Int) : a ≤ sz a ∧ -a ≤ sz a ∧ 0 ≤ sz a := by unfold sz; split <;> omega
theorem sz_le {a A : Int} (h : -A ≤ a ∧ a ≤ A) : sz a ≤ A := by unfold sz; split <;> omega
theorem addS_good (a b : Int) (ha : numB a = true) (hb : numB b = true) (h : numB (a + b) = true) : addS false a b = (a + b, false) := by
 rw [addS_yes (by unfold tk; simp [ha, hb]), gv_yes h]
theorem subS_good (a b : Int) (ha : numB a = true) (hb : numB b = true) (h : numB (a - b) = true) : subS false a b = (a - b, false) := by
 rw [subS_yes (by unfold tk; simp [ha, hb]), gv_yes h]
end Go.Proofs.YtbophanlmkbfeaaGreatDoor
namespace Go.Proofs.YtbophanlmkbfeaaGreatDoor
open Go.RowKit
theorem tk_true (zs : List Int) : tk true zs = false := rfl
theorem divS_true (a b : Int) : divS true a b = (0, true) := partS_no (tk_true _)
theorem normS_true (a b c : Int) : normS true a b c = (0, true) := normS_no (tk_true _)
theorem vNorm_true (p : V3) : vNormS true p = (0, true) := by simp [vNormS, normS_true]
theorem normS_good {bad : Bool} {a b c n : Int} (h : normS bad a b c = (n, false)) :
    bad = false ∧ numB a = true ∧ numB b = true ∧ numB c = true ∧ 0 ≤ n ∧ n ≤ 4611686018427387904 ∧ n * n ≤ a * a + b * b + c * c ∧ a * a + b * b + c * c < (n + 1) * (n + 1) := by
 cases ht : tk bad [a, b, c]
 ·rw [normS_no ht] at h; cases h
 ·have t := tk_three ht
  rw [normS_yes ht] at h
  have ha := sq_bd t.2.1
  have hb := sq_bd t.2.2.1
  have hc := sq_bd t.2.2.2
  have s := isq_spec (a * a + b * b + c * c) (by omega) (by omega)
  have g : isq (a * a + b * b + c * c) ≤ 4611686018427387904 ∧ (out (isq (a * a + b * b + c * c)) false).1 = if false = true then -isq (a * a + b * b + c * c) else isq (a * a + b * b + c * c) := out_good _ _ (by rw [h])
  have e : isq (a * a + b * b + c * c) = n := by have h3 := congrArg Prod.fst h; rw [g.2, if_neg (by decide)] at h3; exact h3
  rw [e] at s g
  exact ⟨t.1, t.2.1, t.2.2.1, t.2.2.2, s.1, g.1, s.2.1, s.2.2⟩
theorem normS_bad (bad : Bool) (a b c : Int) (h : (normS bad a b c).2 = true) : (normS bad a b c).1 = 0 := by
 unfold normS at h ⊢
 split
 ·rename_i t; rw [if_pos t] at h; exact out_bad _ _ h
 ·rfl
theorem normS_make {a b c n : Int} (ha : numB a = true) (hb : numB b = true) (hc : numB c = true) (n0 : 0 ≤ n) (n1 : n ≤ 4611686018427387904)
    (h1 : n * n ≤ a * a + b * b + c * c) (h2 : a * a + b * b + c * c < (n + 1) * (n + 1)) : normS false a b c = (n, false) := by
 have ha' := sq_bd ha
 have hb' := sq_bd hb
 have hc' := sq_bd hc
 have s := isq_spec (a * a + b * b + c * c) (by omega) (by omega)
 have e : isq (a * a + b * b + c * c) = n := isq_unique _ _ _ s.1 n0 s.2.1 s.2.2 h1 h2
 rw [normS_yes (by unfold tk; simp [ha, hb, hc]), e]
 unfold out
 rw [← sgnd_in n false n1, decide_eq_false (by omega)]
 rfl
theorem abs_le_of_sq {a n : Int} (h0 : 0 ≤ n) (h : a * a < (n + 1) * (n + 1)) : -n ≤ a ∧ a ≤ n := by
 constructor
 ·by_cases c : -n ≤ a
  ·exact c
  ·have := sq_mono (by omega : (0 : Int) ≤ n + 1) (by omega : n + 1 ≤ -a)
   rw [Int.neg_mul_neg] at this
   omega
 ·by_cases c : a ≤ n
  ·exact c
  ·have := sq_mono (by omega : (0 : Int) ≤ n + 1) (by omega : n + 1 ≤ a)
   omega
theorem sq_nonneg (a : Int) : 0 ≤ a * a := by rw [← sz_sq a]; exact Int.mul_nonneg (le_sz a).2.2 (le_sz a).2.2
structure Uof (u a n : Int) : Prop where
 lo : -1099511627776 ≤ u
 hi : u ≤ 1099511627776
 up : 2 * (u * n) ≤ 2 * (a * 1099511627776) + n
 dn : 2 * (a * 1099511627776) ≤ 2 * (u * n) + n
theorem div_unit (a n : Int) (hn : 0 < n ∧ n ≤ 4611686018427387904) (ha : -n ≤ a ∧ a ≤ n) : ∃ u, divS false a n = (u, false) ∧ Uof u a n := by
 obtain ⟨m, e, h1, h2, _⟩ := partS_near a 1099511627776 n (numB_of (by omega)) (by rfl) (numB_of (by omega)) hn.1 (by
  rw [show sz 1099511627776 = 1099511627776 by rfl]
  have := sz_le (A := n) ha
  omega)
 refine ⟨m, e, ?_, ?_, h1, h2⟩
 ·by_cases c : -1099511627776 ≤ m
  ·exact c
  ·have := Int.mul_le_mul_of_nonneg_right (by omega : m ≤ -1099511627777) (by omega : 0 ≤ n)
   omega
 ·by_cases c : m ≤ 1099511627776
  ·exact c
  ·have := Int.mul_le_mul_of_nonneg_right (by omega : (1099511627777 : Int) ≤ m) (by omega : 0 ≤ n)
   omega
theorem absmul {a b A B : Int} (ha : -A ≤ a ∧ a ≤ A) (hb : -B ≤ b ∧ b ≤ B) : -(A * B) ≤ a * b ∧ a * b ≤ A * B := by
 have h1 := Int.mul_le_mul (sz_le ha) (sz_le hb) (le_sz b).2.2 (by omega : (0 : Int) ≤ A)
 have h2 := sz_signs a b
 have h3 := Int.mul_nonneg (le_sz a).2.2 (le_sz b).2.2
 split at h2
 ·rw [h2] at h1 h3; omega
 ·rw [h2] at h1 h3; omega
end Go.Proofs.YtbophanlmkbfeaaGreatDoor
namespace Go.Proofs.YtbophanlmkbfeaaGreatDoor
open Go.RowKit
theorem part_up {a p q : Int} (ha : 0 ≤ a) (ha' : a ≤ 4611686018427387904) (hp : 0 ≤ p) (hp' : p ≤ 4611686018427387904) (hq : 0 < q) (hq' : q ≤ 4611686018427387904) (h : rnd (a * p) q ≤ 4611686018427387904) : partS false a p q = (rnd (a * p) q, false) := by
 have n1 : numB a = true := by unfold numB; simp; omega
 have n2 : numB p = true := by unfold numB; simp; omega
 have n3 : numB q = true := by unfold numB; simp; omega
 rw [partS_yes (by unfold tk; simp [n1, n2, n3]) (by simp; omega)]
 have e1 : sz a = a := by unfold sz; rw [if_neg (by omega)]
 have e2 : sz p = p := by unfold sz; rw [if_neg (by omega)]
 have e3 : sz q = q := by unfold sz; rw [if_neg (by omega)]
 rw [e1, e2, e3, decide_eq_false (by omega), decide_eq_false (by omega), decide_eq_false (by omega)]
 unfold out sgnd
 rw [if_pos h, decide_eq_false (by omega)]
 rfl
theorem add_up {a b : Int} (ha : 0 ≤ a) (hb : 0 ≤ b) (h : a + b ≤ 4611686018427387904) : addS false a b = (a + b, false) := by
 have n1 : numB a = true := by unfold numB; simp; omega
 have n2 : numB b = true := by unfold numB; simp; omega
 have n3 : numB (a + b) = true := by unfold numB; simp; omega
 rw [addS_yes (by unfold tk; simp [n1, n2])]
 unfold gv
 rw [n3]
 rfl
theorem mod_up {a m : Int} (ha : -4611686018427387904 ≤ a) (ha' : a ≤ 4611686018427387904) (hm : 0 < m) (hm' : m ≤ 4611686018427387904) : modS false a m = (a % m, false) := by
 have n1 : numB a = true := by unfold numB; simp; omega
 have n2 : numB m = true := by unfold numB; simp; omega
 exact modS_yes (by unfold tk; simp [n1, n2]) hm
end Go.Proofs.YtbophanlmkbfeaaGreatDoor
namespace Go.Proofs.YtbophanlmkbfeaaGreatDoor
open Go.RowKit
def cRight (t : Int) : Bool := decide (0 ≤ t) && decide (t ≤ 157766400000)
def cDaysS (bad : Bool) (t : Int) : Int × Bool := if cRight t then partS bad 1099511627776 t 86400000 else (0, true)
def cDay (t : Int) : Int := rnd (1099511627776 * t) 86400000
def cSince (t : Int) : Int := rnd (6908435304716 * (t % 86400000)) 86400000
def cBeyond (t : Int) : Int := rnd (18914669620 * cDay t) 1099511627776
theorem cRight_in {t : Int} (h0 : 0 ≤ t) (h1 : t ≤ 157766400000) : cRight t = true := by unfold cRight; rw [decide_eq_true h0, decide_eq_true h1]; rfl
theorem cRight_out {t : Int} (h : ¬ (0 ≤ t ∧ t ≤ 157766400000)) : cRight t = false := by
 unfold cRight
 by_cases a : 0 ≤ t
 ·rw [decide_eq_false (p := t ≤ 157766400000) (by omega), Bool.and_false]
 ·rw [decide_eq_false a]; rfl
theorem cRight_cases (t : Int) : (0 ≤ t ∧ t ≤ 157766400000) ∨ ¬ (0 ≤ t ∧ t ≤ 157766400000) := Classical.em _
structure CSteps (t : Int) : Prop where
 day : partS false 1099511627776 t 86400000 = (cDay t, false)
 part : partS false 6908435304716 (t % 86400000) 86400000 = (cSince t, false)
 mul : mulS false 18914669620 (cDay t) = (cBeyond t, false)
 add : addS false 5399947124839 (cSince t) = (5399947124839 + cSince t, false)
 sum : addS false (5399947124839 + cSince t) (cBeyond t) = (5399947124839 + cSince t + cBeyond t, false)
 mod : modS false (5399947124839 + cSince t + cBeyond t) 6908435304716 = ((5399947124839 + cSince t + cBeyond t) % 6908435304716, false)
theorem cSteps {t : Int} (h0 : 0 ≤ t) (h1 : t ≤ 157766400000) : CSteps t := by
 have d0 : 0 ≤ cDay t ∧ cDay t ≤ 2007708232318976 := by unfold cDay rnd; omega
 have p0 : 0 ≤ cSince t ∧ cSince t ≤ 6908435304716 := by unfold cSince rnd; omega
 have q0 : 0 ≤ cBeyond t ∧ cBeyond t ≤ 35000000000000 := by unfold cBeyond rnd; omega
 constructor
 ·exact part_up (by decide) (by decide) h0 (by omega) (by decide) (by decide) (show cDay t ≤ _ by omega)
 ·exact part_up (by decide) (by decide) (by omega) (by omega) (by decide) (by decide) (show cSince t ≤ _ by omega)
 ·exact part_up (by decide) (by decide) (by omega) (by omega) (by decide) (by decide) (show cBeyond t ≤ _ by omega)
 ·exact add_up (by decide) (by omega) (by omega)
 ·exact add_up (by omega) (by omega) (by omega)
 ·exact mod_up (by omega) (by omega) (by decide) (by decide)
theorem cDaysS_in {t : Int} (h0 : 0 ≤ t) (h1 : t ≤ 157766400000) : cDaysS false t = (cDay t, false) := by unfold cDaysS; rw [cRight_in h0 h1, if_pos rfl, (cSteps h0 h1).day]
theorem cDaysS_out (bad : Bool) {t : Int} (h : ¬ (0 ≤ t ∧ t ≤ 157766400000)) : cDaysS bad t = (0, true) := by unfold cDaysS; rw [cRight_out h]; rfl
end Go.Proofs.YtbophanlmkbfeaaGreatDoor
