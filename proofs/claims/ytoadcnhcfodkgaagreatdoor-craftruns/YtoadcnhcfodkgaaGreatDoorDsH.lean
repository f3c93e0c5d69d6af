/-
  What the code's craft hears, and what the document's does, for the seat YtoadcnhcfodkgaaGreatDoor. No Go text in sight.
-/
import Derived.Test.YtoadcnhcfodkgaaGreatDoorDsE
namespace Go.Proofs.YtoadcnhcfodkgaaGreatDoor
open Go.RowKit

/-- The same is heard. -/
structure HR (x : Hea) (y : HeD) : Prop where
  t1 : y.2.1 = !decide (x.1.1 = 0)
  t2 : y.2.2.1 = !decide (x.2.1.1 = 0)
  t3 : y.2.2.2.1 = !decide (x.2.2.1.1 = 0)
  r1 : y.2.2.2.2.2.1 = x.1
  r2 : y.2.2.2.2.2.2.1 = x.2.1
  r3 : y.2.2.2.2.2.2.2.1 = x.2.2.1
  o : y.2.2.2.2.2.2.2.2 = x.2.2.2
theorem HR.zero : HR zeroHea zeroHeD := ⟨rfl, rfl, rfl, rfl, rfl, rfl, rfl⟩
theorem HR.s1 {x : Hea} {y : HeD} (h : HR x y) {r : Tup 5} (hr : r.1 = 1) : HR (r, x.2.1, x.2.2.1, x.2.2.2) (set1 y r) := ⟨by show true = _; rw [hr]; rfl, h.t2, h.t3, rfl, h.r2, h.r3, h.o⟩
theorem HR.s2 {x : Hea} {y : HeD} (h : HR x y) {r : Tup 5} (hr : r.1 = 2) : HR (x.1, r, x.2.2.1, x.2.2.2) (set2 y r) := ⟨h.t1, by show true = _; rw [hr]; rfl, h.t3, h.r1, rfl, h.r3, h.o⟩
theorem HR.s3 {x : Hea} {y : HeD} (h : HR x y) {r : Tup 5} (hr : r.1 = 3) : HR (x.1, x.2.1, r, x.2.2.2) (set3 y r) := ⟨h.t1, h.t2, by show true = _; rw [hr]; rfl, h.r1, h.r2, rfl, h.o⟩
theorem HR.so {x : Hea} {y : HeD} (h : HR x y) (o : Int) : HR (x.1, x.2.1, x.2.2.1, o) (setO y o) := ⟨h.t1, h.t2, h.t3, h.r1, h.r2, h.r3, rfl⟩
/-- The same craft, and the same is heard. -/
def HS (s : Cra × Hea) (s' : Cra × HeD) : Prop := s.1 = s'.1 ∧ HR s.2 s'.2
theorem HS.ite {b : Bool} {A B : Cra × Hea} {A' B' : Cra × HeD} (h1 : HS A A') (h2 : b = false → HS B B') : HS (if b then A else B) (if b then A' else B') := by
  cases b
  · exact h2 rfl
  · exact h1
theorem sen_rel (F : Fs) (hk : ∀ f, (F.read f).2 = true → (F.read f).1.1 = f.1) {c : Cra} {x : Hea} {y : HeD} (h : HR x y) (f : Fra) (t : Int) :
    (f.1 = 1 → HS (senW F c x f t) (senD F t c y f set1)) ∧ (f.1 = 2 → HS (senW F c x f t) (senD F t c y f set2)) ∧ (f.1 = 3 → HS (senW F c x f t) (senD F t c y f set3)) := by
  unfold senW senD
  cases e : (F.read f).2
  · exact ⟨fun _ => ⟨rfl, h⟩, fun _ => ⟨rfl, h⟩, fun _ => ⟨rfl, h⟩⟩
  · have k := hk f e
    cases e2 : F.fresh ((F.read f).1, t)
    · exact ⟨fun _ => ⟨rfl, h⟩, fun _ => ⟨rfl, h⟩, fun _ => ⟨rfl, h⟩⟩
    · generalize (F.read f).1 = r at k
      refine ⟨fun e => ?_, fun e => ?_, fun e => ?_⟩
      · rw [e] at k
        rw [k]
        exact ⟨rfl, h.s1 k⟩
      · rw [e] at k
        rw [k]
        exact ⟨rfl, h.s2 k⟩
      · rw [e] at k
        rw [k]
        exact ⟨rfl, h.s3 k⟩
theorem ord_rel {c : Cra} {x : Hea} {y : HeD} (h : HR x y) (o : Tup 9 × Int) : HS (ordC c x o) (ordD c y o) := by
  unfold ordC ordD
  exact HS.ite ⟨rfl, h⟩ fun _ => HS.ite ⟨rfl, h.so _⟩ fun _ => HS.ite ⟨rfl, h.so _⟩ fun _ => HS.ite ⟨rfl, h⟩ fun _ => HS.ite ⟨rfl, h⟩ fun _ => ⟨rfl, h⟩
theorem hear_rel (F : Fs) (hk : ∀ f, (F.read f).2 = true → (F.read f).1.1 = f.1) (t : Int) {s : Cra × Hea} {s' : Cra × HeD} (h : HS s s') (f : Fra) : HS (hearW F t s f) (hearD F t s' f) := by
  obtain ⟨c, x⟩ := s
  obtain ⟨c', y⟩ := s'
  obtain ⟨rfl, h⟩ := h
  have S := sen_rel F hk (c := c) h f t
  unfold hearW hearD
  by_cases h1 : f.1 = 1
  · rw [if_pos h1, if_pos h1]; exact S.1 h1
  by_cases h2 : f.1 = 2
  · rw [if_neg h1, if_neg h1, if_pos h2, if_pos h2]; exact S.2.1 h2
  by_cases h3 : f.1 = 3
  · rw [if_neg h1, if_neg h1, if_neg h2, if_neg h2, if_pos h3, if_pos h3]; exact S.2.2 h3
  rw [if_neg h1, if_neg h1, if_neg h2, if_neg h2, if_neg h3, if_neg h3]
  by_cases h4 : f.1 = 16
  · rw [if_pos h4, if_pos h4]; exact ord_rel h _
  · rw [if_neg h4, if_neg h4]; exact ⟨rfl, h⟩
theorem fold_rel (F : Fs) (hk : ∀ f, (F.read f).2 = true → (F.read f).1.1 = f.1) (t : Int) : ∀ (l : List Fra) {s : Cra × Hea} {s' : Cra × HeD}, HS s s' → HS (l.foldl (hearW F t) s) (l.foldl (hearD F t) s')
  | [], _, _, h => h
  | f :: l, _, _, h => fold_rel F hk t l (hear_rel F hk t h f)
/-- Of the same bytes the same is taken. -/
theorem take_rel (F : Fs) (hk : ∀ f, (F.read f).2 = true → (F.read f).1.1 = f.1) (c : Cra) (t : Int) (b : ByteArray) : HS (takeW F c t b) (takeD F c t b) := fold_rel F hk t _ ⟨rfl, HR.zero⟩
/-! ### How much later -/
theorem wrap_inD {x : Int} (h : -9223372036854775808 ≤ x ∧ x ≤ 9223372036854775807) : IntKind.i64.wrap x = x := by rw [IntKind.wrap_i64]; omega
theorem lpD_is {was t : Int} (hw : 0 ≤ was ∧ was ≤ 4611686018427387904) (ht : 0 ≤ t ∧ t ≤ 4611686018427387904) (on : Bool) (e : SeD) : ∀ c : Nat, c ≤ 9991 → lpD was t on e c = if on = true ∧ 10 ≤ t - was ∧ t - was < 10 + (c : Int) then (setGap e false, t - was) else (e, 0)
  | 0, _ => by rw [lpD, if_neg (by omega)]
  | c + 1, hc => by
    have ih := lpD_is hw ht on e c (by omega)
    rw [lpD, ih]
    cases on
    · rfl
    · rw [if_pos rfl, wrap_inD (x := t - (10 + (c : Int))) (by omega), wrap_inD (x := was + (10 + (c : Int))) (by omega)]
      by_cases h0 : was ≤ t - (10 + (c : Int))
      · rw [if_pos h0]
        by_cases h1 : was + (10 + (c : Int)) = t
        · rw [if_pos h1, if_neg (show ¬ (true = true ∧ 10 ≤ t - was ∧ t - was < 10 + (c : Int)) from fun h => by omega), if_pos (show true = true ∧ 10 ≤ t - was ∧ t - was < 10 + ((c + 1 : Nat) : Int) from ⟨rfl, by omega, by omega⟩)]
          exact Prod.ext rfl (show 10 + (c : Int) = t - was by omega)
        · rw [if_neg h1]
          by_cases h3 : 10 ≤ t - was ∧ t - was < 10 + (c : Int)
          · rw [if_pos (show true = true ∧ 10 ≤ t - was ∧ t - was < 10 + (c : Int) from ⟨rfl, h3⟩), if_pos (show true = true ∧ 10 ≤ t - was ∧ t - was < 10 + ((c + 1 : Nat) : Int) from ⟨rfl, by omega, by omega⟩)]
          · rw [if_neg (show ¬ (true = true ∧ 10 ≤ t - was ∧ t - was < 10 + (c : Int)) from fun h => h3 h.2), if_neg (show ¬ (true = true ∧ 10 ≤ t - was ∧ t - was < 10 + ((c + 1 : Nat) : Int)) from fun h => by omega)]
      · rw [if_neg h0]
        by_cases h3 : 10 ≤ t - was ∧ t - was < 10 + (c : Int)
        · rw [if_pos (show true = true ∧ 10 ≤ t - was ∧ t - was < 10 + (c : Int) from ⟨rfl, h3⟩), if_pos (show true = true ∧ 10 ≤ t - was ∧ t - was < 10 + ((c + 1 : Nat) : Int) from ⟨rfl, by omega, by omega⟩)]
        · rw [if_neg (show ¬ (true = true ∧ 10 ≤ t - was ∧ t - was < 10 + (c : Int)) from fun h => h3 h.2), if_neg (show ¬ (true = true ∧ 10 ≤ t - was ∧ t - was < 10 + ((c + 1 : Nat) : Int)) from fun h => by omega)]
end Go.Proofs.YtoadcnhcfodkgaaGreatDoor
