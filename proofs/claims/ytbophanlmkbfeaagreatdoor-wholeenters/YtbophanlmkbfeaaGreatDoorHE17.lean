/-
A part.
A part.
A part.
A part.
A part.
A part.
-/
import Derived.DeepKeys4
import Derived.Handy
import Derived.Deep.RegionHeld3
import Derived.BigRegion
import Derived.Test.YtbophanlmkbfeaaGreatDoorHE16
import Derived.Test.YtbophanlmkbfeaaGreatDoorHE10
import Derived.Test.YtbophanlmkbfeaaGreatDoorHE12
import Derived.Test.YtbophanlmkbfeaaGreatDoorHE02
namespace Go.Proofs.YtbophanlmkbfeaaGreatDoor
open Go.RowKit Go.Maps Go.WideMaps
def undone (L : Array Bool) : Nat := (L.toList.filter (fun b => !b)).length
theorem undone_set {L : Array Bool} {i : Nat} (h : L.getD i true = false) : undone (L.setIfInBounds i true) + 1 = undone L := by
 obtain ⟨l⟩ := L
 have h' : l[i]?.getD true = false := by simpa using h
 unfold undone
 simp only [List.setIfInBounds_toArray]
 clear h
 induction l generalizing i with
 | nil => simp at h'
 | cons b r ih =>
  cases i with
  | zero => simp at h'; simp [h']
  | succ i =>
   have := ih (i := i) (by simpa using h')
   cases b <;> simp [List.set_cons_succ] <;> omega
theorem orders_ind {P : Program} {md : Region.Mode} {l : List Oper} {Q : Exit → Act → World → Prop} (Inv : Array Bool → Act → World → Prop)
    (step : ∀ listed a w i o, l[i]? = some o → i ∈ Region.ready md l.toArray listed → Inv listed a w → ∀ K' : Act → World → Prop, Shut (∀ a w, Inv (listed.setIfInBounds i true) a w → K' a w) → if Region.wanted o (yielded l.toArray a.tmps) = true then Oper.wp P o a w K' Q else K' (a.put o.dst undef) w)
    (fin : ∀ listed a w, Region.ready md l.toArray listed = [] → Inv listed a w → Q .normal a w) :
    ∀ (fuel : Nat) (listed : Array Bool) (a : Act) (w : World), undone listed ≤ fuel → Inv listed a w → wpAnyH P md l.toArray Q (fun _ => True) fuel listed a w := by
 intro fuel
 induction fuel with
 | zero =>
  intro listed a w hu hI
  have hr : Region.ready md l.toArray listed = [] := by
   apply List.eq_nil_iff_forall_not_mem.2
   intro i hi
   have := undone_set (mem_ready.1 hi).1
   omega
  exact ⟨hr, fin listed a w hr hI⟩
 | succ fuel ih =>
  intro listed a w hu hI
  refine ⟨fun hr => fin listed a w hr hI, fun i hi => ?_⟩
  obtain ⟨hun, o, ho, _⟩ := mem_ready.1 hi
  have ho' : l[i]? = some o := by simpa using ho
  have hs := undone_set hun
  have h := step listed a w i o ho' hi hI (fun a' w' => True ∧ wpAnyH P md l.toArray Q (fun _ => True) fuel (listed.setIfInBounds i true) a' w') (fun a' w' k => ⟨trivial, ih _ a' w' (by omega) k⟩)
  unfold wpOp
  rw [ho]
  show if _ then _ else _
  split
  ·rename_i hw
   rw [if_pos hw] at h
   exact Or.inl h
  ·rename_i hw
   rw [if_neg hw] at h
   exact h
theorem no_ready {md : Region.Mode} {l : List Oper} {L : Array Bool} (hr : Region.ready md l.toArray L = []) {i : Nat} {o : Oper} (hi : l[i]? = some o) (hu : L.getD i true = false) (h : o.after.toList.all (fun e => !Region.binds md e || L.getD e.on false) = true) : False := by
 have m : i ∈ Region.ready md l.toArray L := mem_ready.2 ⟨hu, o, by simpa using hi, fun e he hb => by
  have := (List.all_eq_true.1 h) e (by simpa using he)
  rw [hb] at this
  simpa using this⟩
 rw [hr] at m
 exact absurd m List.not_mem_nil
theorem mp_ins {ops : Array Oper} {op : Oper} {a : Act} {w : World} {K : Act → World → Prop} {Q : Exit → Act → World → Prop} {x y z : Operand} {k c : Nat} {f : Int → Int → Int} {n m v : Int} (hw : Region.wanted op (yielded ops a.tmps) = true)
    (ho : op.op = .insert 219 x y z) (hx : a.eval x = .map (some k)) (hy : a.eval y = .agg #[.int .i64 n, .int .i64 m]) (hz : a.eval z = .int .i64 v) (M : Mp k c f w) (hc : c < 1000) (hn : I64 n) (hm : I64 m) (hv : I64 v)
    (h : ∀ w', Mp k (c + 1) (putM f n m v) w' → Kept k w w' → K (a.put op.dst undef) w') : if Region.wanted op (yielded ops a.tmps) = true then Oper.wp Tryz.prog op a w K Q else K (a.put op.dst undef) w := by
 rw [if_pos hw]
 obtain ⟨w', hr, M', k'⟩ := M.store hc hn hm hv
 unfold Oper.wp
 simp [execOp, ho, hx, hy, hz, hr, Result.andThen]
 exact h w' M' k'
def mf2 (p : Bool) (x : Int) (q : Bool) (y : Int) : Int → Int → Int := fun n m => if q = true ∧ n = 1 ∧ m = 1 then y else if p = true ∧ n = 0 ∧ m = 0 then x else 0
theorem mf2_zero (x y : Int) (n m : Int) : (0 : Int) = mf2 false x false y n m := by unfold mf2; simp
theorem mf2_p (x : Int) (q : Bool) (y : Int) (n m : Int) : putM (mf2 false x q y) 0 0 x n m = mf2 true x q y n m := by
 unfold putM mf2
 by_cases h : n = 0 ∧ m = 0
 ·obtain ⟨rfl, rfl⟩ := h; simp
 ·rw [if_neg h]; simp [h]
theorem mf2_q (p : Bool) (x y : Int) (n m : Int) : putM (mf2 p x false y) 1 1 y n m = mf2 p x true y n m := by
 unfold putM mf2
 by_cases h : n = 1 ∧ m = 1
 ·obtain ⟨rfl, rfl⟩ := h; simp
 ·rw [if_neg h]; simp [h]
structure MI (w0 : World) (c s : Int) (a0 a2 a5 a6 b7 b9 b12 b13 q14 q16 q17 e18 d19 z20 : Bool) (x7 x10 x14 x15 x19 x20 x22 x23 : Value) (kA kB kC kD : Nat) (w : World) : Prop where
 bel : Below w0.heap.size w0 w
 A : a0 = true → x10 = .map (some kA) ∧ w0.heap.size ≤ kA ∧ Mp kA (a2.toNat + a5.toNat) (mf2 a2 1099511627776 a5 s) w
 B : b7 = true → x15 = .map (some kB) ∧ w0.heap.size ≤ kB ∧ Mp kB (b9.toNat + b12.toNat) (mf2 b9 0 b12 c) w
 C : q14 = true → x20 = .map (some kC) ∧ w0.heap.size ≤ kC ∧ Mp kC q16.toNat (mf2 false 0 q16 1099511627776) w
 A6 : a6 = true → x14 = .map (some kA) ∧ a0 = true ∧ a2 = true ∧ a5 = true
 B13 : b13 = true → x19 = .map (some kB) ∧ b7 = true ∧ b9 = true ∧ b12 = true
 C17 : q17 = true → x22 = .map (some kC) ∧ q14 = true ∧ q16 = true
 E : e18 = true → x23 = .agg #[.map (some kA), .map (some kB), .map (some kC)] ∧ a6 = true ∧ b13 = true ∧ q17 = true
 D : d19 = true → x7 = .pointer (some ⟨kD, 0, none⟩) ∧ w0.heap.size ≤ kD ∧ Arr kD (bif z20 then [.map (some kA), .map (some kB), .map (some kC)] else [.map none, .map none, .map none]) w
 va : a2 = true ∨ a5 = true → a0 = true
 vb : b9 = true ∨ b12 = true → b7 = true
 vc : q16 = true → q14 = true
 Z : z20 = true → e18 = true ∧ d19 = true
 AB : a0 = true → b7 = true → kA ≠ kB
 AC : a0 = true → q14 = true → kA ≠ kC
 BC : b7 = true → q14 = true → kB ≠ kC
 AD : a0 = true → d19 = true → kA ≠ kD
 BD : b7 = true → d19 = true → kB ≠ kD
 CD : q14 = true → d19 = true → kC ≠ kD
end Go.Proofs.YtbophanlmkbfeaaGreatDoor
namespace Go.Proofs.YtbophanlmkbfeaaGreatDoor
open Go.RowKit Go.Maps Go.WideMaps
theorem met_law : Keyed Tryz.prog 252 := Keyed.of_law (deep_law (m := 2) (by omega) (by kernel_rfl) (by kernel_rfl) (by kernel_rfl))
theorem met_zero (w : World) : (zeroValue 3).run Tryz.prog w = .ok (.int .i64 0) w := by kernel_rfl
theorem met_types : ∃ m, Tryz.prog.types.size = m + 1 := ⟨Tryz.prog.types.size - 1, by have h : 0 < Tryz.prog.types.size := of_decide_eq_true (by kernel_rfl); omega⟩
theorem met_at {n m : Int} (hn : I64 n) (hm : I64 m) : keyOf Tryz.prog 252 (.agg #[.int .i64 n, .int .i64 m]) = some (kyl n m) := by
 have hkt : Tryz.prog.keyType 252 = true := by kernel_rfl
 have hsz : Tryz.prog.cellsOf 252 = 2 := by kernel_rfl
 have h1 : Tryz.prog.cellsOf 3 = 1 := by kernel_rfl
 obtain ⟨k, hk⟩ := met_types
 unfold keyOf kyl
 simp only [Tryz.underlying252]
 rw [if_pos (by simp [hkt, Value.formed, Tryz.underlying252, hsz]), hk]
 unfold Program.keyLits
 simp only [Tryz.underlying252, Value.cells]
 simp [h1, hsz, Program.keyLits, Tryz.underlying3, hn.wf, hm.wf]
structure Mm (k c : Nat) (f : Int → Int → Int) (w : World) : Prop where
 own : ∃ D : DataW Unit, w.ownsMap Tryz.prog 252 (plainElem Tryz.prog 3) k c D ∧ ∀ n m, I64 n → I64 m → D.atKey (kyl n m) (.lit (.int .i64 0)) = .lit (.int .i64 (f n m))
 lies : k < w.heap.size
theorem met_inj {n m n' m' : Int} (hn : I64 n) (hm : I64 m) (hn' : I64 n') (hm' : I64 m') (h : kyl n m = kyl n' m') : n = n' ∧ m = m' := by
 have a := met_at hn hm
 rw [h] at a
 have e := met_law.inj a (met_at hn' hm')
 simp at e
 exact e
theorem met_key {n m : Int} (hn : I64 n) (hm : I64 m) : WideAt.IsKeyLit (kyl n m) := met_law.key (met_at hn hm)
theorem Mm.same {k c : Nat} {f : Int → Int → Int} {w w' : World} (h : Mm k c f w) (e : w'.heap[k]? = w.heap[k]?) (hs : w.heap.size ≤ w'.heap.size) : Mm k c f w' := by
 obtain ⟨D, ⟨es, clock, hb, F, hn, hD⟩, at_⟩ := h.own
 exact ⟨⟨D, ⟨es, clock, e.trans hb, F, hn, hD⟩, at_⟩, Nat.lt_of_lt_of_le h.lies hs⟩
theorem Mm.mono {k c c' : Nat} {f : Int → Int → Int} {w : World} (h : Mm k c f w) (hc : c ≤ c') : Mm k c' f w := by
 obtain ⟨D, o, at_⟩ := h.own
 exact ⟨⟨D, o.mono hc, at_⟩, h.lies⟩
theorem Mm.eqv {k c : Nat} {f g : Int → Int → Int} {w : World} (h : Mm k c f w) (e : ∀ n m, f n m = g n m) : Mm k c g w := by
 obtain rfl : f = g := by funext n m; exact e n m
 exact h
theorem Mm.below {k c : Nat} {f : Int → Int → Int} {w w' : World} (h : Mm k c f w) (hb : Below w.heap.size w w') : Mm k c f w' := h.same (hb.block k h.lies) hb.size
set_option maxRecDepth 100000 in
theorem Mm.look {k c : Nat} {f : Int → Int → Int} {w : World} (h : Mm k c f w) {n m : Int} (hn : I64 n) (hm : I64 m) : (Instr.lookup 249 (.map (some k)) (.agg #[.int .i64 n, .int .i64 m]) false).run Tryz.prog w = .ok (.int .i64 (f n m)) w := by
 obtain ⟨D, o, at_⟩ := h.own
 obtain ⟨c, hr, hat, _⟩ := o.lookup_int met_law Tryz.underlying249 Tryz.underlying3 (met_zero w) (met_at hn hm)
 rw [at_ n m hn hm] at hat
 injection hat with hat
 injection hat with _ hat
 rw [hr, hat]
theorem Mm.store {k c : Nat} {f : Int → Int → Int} {w : World} (h : Mm k c f w) (hc : c < 1000) {n m v : Int} (hn : I64 n) (hm : I64 m) (hv : I64 v) :
    ∃ w', (Instr.mapUpdate 249 (.map (some k)) (.agg #[.int .i64 n, .int .i64 m]) (.int .i64 v)).run Tryz.prog w = .ok () w' ∧ Mm k (c + 1) (putM f n m v) w' ∧ Kept k w w' := by
 obtain ⟨D, o, at_⟩ := h.own
 have hmap : IsMap D := by obtain ⟨_, _, _, _, _, rfl⟩ := o; exact ⟨_, rfl⟩
 obtain ⟨w', hr, o', g⟩ := o.update met_law Tryz.underlying249 (by unfold maxLen; omega) (met_at hn hm) (plainElem_int Tryz.underlying3 hv.wf)
 refine ⟨w', hr, ⟨⟨_, o', fun n' m' hn' hm' => ?_⟩, Nat.lt_of_lt_of_le h.lies g.size⟩, ⟨g.os, g.tape, g.output, g.size, fun i hi hb => g.block i hi (fun e => hb (Option.some.inj e))⟩⟩
 unfold putM
 by_cases e : n' = n ∧ m' = m
 ·rw [if_pos e, e.1, e.2, atKey_put_same hmap (met_key hn hm)]
 ·rw [if_neg e, atKey_put_other (fun h => e (met_inj hn' hm' hn hm h)), at_ n' m' hn' hm']
theorem Mm.made (w : World) (n : Nat) (hn : n = w.heap.size) : Mm n 0 (fun _ _ => 0) (w.alloc (.map #[] 0)) := by
 subst hn
 exact ⟨⟨_, World.ownsMap_made w _ _ _, fun _ _ _ _ => rfl⟩, by simp⟩
theorem mm_ins {ops : Array Oper} {op : Oper} {a : Act} {w : World} {K : Act → World → Prop} {Q : Exit → Act → World → Prop} {x y z : Operand} {k c : Nat} {f : Int → Int → Int} {n m v : Int} (hw : Region.wanted op (yielded ops a.tmps) = true)
    (ho : op.op = .insert 249 x y z) (hx : a.eval x = .map (some k)) (hy : a.eval y = .agg #[.int .i64 n, .int .i64 m]) (hz : a.eval z = .int .i64 v) (M : Mm k c f w) (hc : c < 1000) (hn : I64 n) (hm : I64 m) (hv : I64 v)
    (h : ∀ w', Mm k (c + 1) (putM f n m v) w' → Kept k w w' → K (a.put op.dst undef) w') : if Region.wanted op (yielded ops a.tmps) = true then Oper.wp Tryz.prog op a w K Q else K (a.put op.dst undef) w := by
 rw [if_pos hw]
 obtain ⟨w', hr, M', k'⟩ := M.store hc hn hm hv
 unfold Oper.wp
 simp [execOp, ho, hx, hy, hz, hr, Result.andThen]
 exact h w' M' k'
end Go.Proofs.YtbophanlmkbfeaaGreatDoor
namespace Go.Proofs.YtbophanlmkbfeaaGreatDoor
open Go.RowKit Go.Maps Go.WideMaps
set_option maxRecDepth 100000
set_option maxHeartbeats 20000000
def ldF (c2 c4 c6 c8 c10 : Bool) : Int → Int → Int := fun n m => if (c2 = true ∧ n = 1 ∧ m = 1) ∨ (c4 = true ∧ n = 2 ∧ m = 1) ∨ (c6 = true ∧ n = 2 ∧ m = 4) ∨ (c8 = true ∧ n = 2 ∧ m = 2) ∨ (c10 = true ∧ n = 2 ∧ m = 8) then 1 else 0
theorem ldF_zero (n m : Int) : (0 : Int) = ldF false false false false false n m := by unfold ldF; simp
theorem ldF_2 (c4 c6 c8 c10 : Bool) (n m : Int) : putM (ldF false c4 c6 c8 c10) 1 1 1 n m = ldF true c4 c6 c8 c10 n m := by
 unfold putM ldF
 by_cases h : n = 1 ∧ m = 1
 ·rw [if_pos h]; simp [h]
 ·rw [if_neg h]; simp [h]
theorem ldF_4 (c2 c6 c8 c10 : Bool) (n m : Int) : putM (ldF c2 false c6 c8 c10) 2 1 1 n m = ldF c2 true c6 c8 c10 n m := by
 unfold putM ldF
 by_cases h : n = 2 ∧ m = 1
 ·rw [if_pos h]; simp [h]
 ·rw [if_neg h]; simp [h]
theorem ldF_6 (c2 c4 c8 c10 : Bool) (n m : Int) : putM (ldF c2 c4 false c8 c10) 2 4 1 n m = ldF c2 c4 true c8 c10 n m := by
 unfold putM ldF
 by_cases h : n = 2 ∧ m = 4
 ·rw [if_pos h]; simp [h]
 ·rw [if_neg h]; simp [h]
theorem ldF_8 (c2 c4 c6 c10 : Bool) (n m : Int) : putM (ldF c2 c4 c6 false c10) 2 2 1 n m = ldF c2 c4 c6 true c10 n m := by
 unfold putM ldF
 by_cases h : n = 2 ∧ m = 2
 ·rw [if_pos h]; simp [h]
 ·rw [if_neg h]; simp [h]
theorem ldF_10 (c2 c4 c6 c8 : Bool) (n m : Int) : putM (ldF c2 c4 c6 c8 false) 2 8 1 n m = ldF c2 c4 c6 c8 true n m := by
 unfold putM ldF
 by_cases h : n = 2 ∧ m = 8
 ·rw [if_pos h]; simp [h]
 ·rw [if_neg h]; simp [h]
structure LI (w0 : World) (m0 c2 c4 c6 c8 c10 v11 r12 : Bool) (x0 x1 x7 : Value) (k : Nat) (w : World) : Prop where
 bel : Below w0.heap.size w0 w
 A : m0 = true → x1 = .map (some k) ∧ w0.heap.size ≤ k ∧ Mm k (c2.toNat + c4.toNat + c6.toNat + c8.toNat + c10.toNat) (ldF c2 c4 c6 c8 c10) w
 va : m0 = false → c2 = false ∧ c4 = false ∧ c6 = false ∧ c8 = false ∧ c10 = false ∧ v11 = false
 V : v11 = true → x7 = .map (some k) ∧ c2 = true ∧ c4 = true ∧ c6 = true ∧ c8 = true ∧ c10 = true
 R : r12 = true → x0 = .map (some k) ∧ v11 = true
theorem leads_any (w : World) : Calls Tryz.prog 198 #[] w fun e w' => ∃ k, e = .returned (.map (some k)) ∧ w.heap.size ≤ k ∧ Mm k 5 (ldF true true true true true) w' ∧ Below w.heap.size w w' := by
 go_enter Tryz.func198, Tryz.ntmps198
 go_wp2_with fail
 refine get_cont (fun KK hKK => ?_)
 have cont : ∀ (W : World) (k : Nat) (y1 y2 y3 y4 y5 y6 y7 : Value), Below w.heap.size w W → w.heap.size ≤ k → Mm k 5 (ldF true true true true true) W → KK { tmps := #[.map (some k), y1, y2, y3, y4, y5, y6, y7], defers := [] } W := by
  intro W k y1 y2 y3 y4 y5 y6 y7 b1 hk M
  rw [hKK.out]
  dsimp only [Exit.inBlock, Exit.then]
  first | refine use_cont (by assumption) ?_ | skip
  go_wp2_with (with_reducible refine post_stop ?_)
  exact ⟨bodyPost_ret (v := .map (some k)) (by simp [results, Tryz.results198, go_sem]) rfl ⟨k, rfl, hk, M, b1⟩⟩
 refine wp_region_held_drew (S := fun _ => True) (by kernel_rfl) trivial (fun zH => ?_)
 refine zT 1 rfl (by kernel_rfl) (fun _ _ _ => id) rfl (fun _ _ => by go_simp <;> with_reducible rfl) zH ?_
 simp only [Act.put, zA, zB, zC]
 refine zT 3 rfl (by kernel_rfl) (fun _ _ _ => id) rfl (fun _ _ => by go_simp <;> with_reducible rfl) zH ?_
 simp only [Act.put, zA, zB, zC]
 refine zT 5 rfl (by kernel_rfl) (fun _ _ _ => id) rfl (fun _ _ => by go_simp <;> with_reducible rfl) zH ?_
 simp only [Act.put, zA, zB, zC]
 refine zT 7 rfl (by kernel_rfl) (fun _ _ _ => id) rfl (fun _ _ => by go_simp <;> with_reducible rfl) zH ?_
 simp only [Act.put, zA, zB, zC]
 refine zT 9 rfl (by kernel_rfl) (fun _ _ _ => id) rfl (fun _ _ => by go_simp <;> with_reducible rfl) zH ?_
 simp only [Act.put, zA, zB, zC]
 have K1 : Below w.heap.size w w.drew := ⟨rfl, rfl, rfl, Nat.le_refl _, fun _ _ => rfl⟩
 generalize w.drew = w1 at K1 ⊢
 have l1 := K1.size
 clear zH
 refine orders_ind (fun L a wi => ∃ (m0 c2 c4 c6 c8 c10 v11 r12 : Bool) (x0 x1 x7 : Value) (k : Nat), L = #[m0, true, c2, true, c4, true, c6, true, c8, true, c10, v11, r12] ∧ a = { tmps := #[x0, x1, .agg #[.int .i64 1, .int .i64 1], .agg #[.int .i64 2, .int .i64 1], .agg #[.int .i64 2, .int .i64 4], .agg #[.int .i64 2, .int .i64 2], .agg #[.int .i64 2, .int .i64 8], x7], defers := [] } ∧ LI w1 m0 c2 c4 c6 c8 c10 v11 r12 x0 x1 x7 k wi) ?_ ?_ 8 _ _ _ (by decide) ?_
 ·intro L a wi i o ho hi hI K hK
  obtain ⟨m0, c2, c4, c6, c8, c10, v11, r12, x0, x1, x7, k, rfl, rfl, I⟩ := hI
  have hall := (mem_ready.1 hi).2
  have hun := (mem_ready.1 hi).1
  have hlt : i < 13 := (List.getElem?_eq_some_iff.1 ho).1
  match i, hlt with
  | 0, _ =>
   obtain rfl : m0 = false := hun
   clear hall
   cases ho
   obtain ⟨rfl, rfl, rfl, rfl, rfl, rfl⟩ := I.va rfl
   go_simp
   refine hK.out _ _ ?_
   exact ⟨true, false, false, false, false, false, false, r12, x0, .map (some wi.heap.size), x7, wi.heap.size, rfl, rfl, ⟨bel_al I.bel _, fun _ => ⟨rfl, I.bel.size, (Mm.made wi _ rfl).eqv ldF_zero⟩, (fun h => by cases h), (fun h => by cases h), fun h => absurd (I.R h).2 (by decide)⟩⟩
  | 1, _ =>
   exact absurd (show true = false from hun) (by decide)
  | 2, _ =>
   obtain rfl : c2 = false := hun
   obtain ⟨o2, ho2, hall⟩ := hall
   cases ho2
   obtain rfl : m0 = true := hall ⟨0, .data⟩ (by simp) rfl
   clear hall
   cases ho
   obtain ⟨e1, g1, M⟩ := I.A rfl
   subst e1
   have hv : v11 = false := by cases v11 with | false => rfl | true => (have h := I.V rfl; simp at h)
   subst hv
   refine mm_ins (by rfl) rfl rfl rfl rfl M (by cases c4 <;> cases c6 <;> cases c8 <;> cases c10 <;> decide) ⟨by decide, by decide⟩ ⟨by decide, by decide⟩ ⟨by decide, by decide⟩ ?_
   intro w2 M1 k1
   simp only [Act.put]
   refine hK.out _ _ ?_
   exact ⟨true, true, c4, c6, c8, c10, false, r12, x0, .map (some k), x7, k, rfl, rfl, ⟨k1.on I.bel g1, fun _ => ⟨rfl, g1, (M1.mono (by cases c4 <;> cases c6 <;> cases c8 <;> cases c10 <;> decide)).eqv (ldF_2 _ _ _ _)⟩, (fun h => by cases h), (fun h => by cases h), fun h => absurd (I.R h).2 (by decide)⟩⟩
  | 3, _ =>
   exact absurd (show true = false from hun) (by decide)
  | 4, _ =>
   obtain rfl : c4 = false := hun
   obtain ⟨o2, ho2, hall⟩ := hall
   cases ho2
   obtain rfl : m0 = true := hall ⟨0, .data⟩ (by simp) rfl
   clear hall
   cases ho
   obtain ⟨e1, g1, M⟩ := I.A rfl
   subst e1
   have hv : v11 = false := by cases v11 with | false => rfl | true => (have h := I.V rfl; simp at h)
   subst hv
   refine mm_ins (by rfl) rfl rfl rfl rfl M (by cases c2 <;> cases c6 <;> cases c8 <;> cases c10 <;> decide) ⟨by decide, by decide⟩ ⟨by decide, by decide⟩ ⟨by decide, by decide⟩ ?_
   intro w2 M1 k1
   simp only [Act.put]
   refine hK.out _ _ ?_
   exact ⟨true, c2, true, c6, c8, c10, false, r12, x0, .map (some k), x7, k, rfl, rfl, ⟨k1.on I.bel g1, fun _ => ⟨rfl, g1, (M1.mono (by cases c2 <;> cases c6 <;> cases c8 <;> cases c10 <;> decide)).eqv (ldF_4 _ _ _ _)⟩, (fun h => by cases h), (fun h => by cases h), fun h => absurd (I.R h).2 (by decide)⟩⟩
  | 5, _ =>
   exact absurd (show true = false from hun) (by decide)
  | 6, _ =>
   obtain rfl : c6 = false := hun
   obtain ⟨o2, ho2, hall⟩ := hall
   cases ho2
   obtain rfl : m0 = true := hall ⟨0, .data⟩ (by simp) rfl
   clear hall
   cases ho
   obtain ⟨e1, g1, M⟩ := I.A rfl
   subst e1
   have hv : v11 = false := by cases v11 with | false => rfl | true => (have h := I.V rfl; simp at h)
   subst hv
   refine mm_ins (by rfl) rfl rfl rfl rfl M (by cases c2 <;> cases c4 <;> cases c8 <;> cases c10 <;> decide) ⟨by decide, by decide⟩ ⟨by decide, by decide⟩ ⟨by decide, by decide⟩ ?_
   intro w2 M1 k1
   simp only [Act.put]
   refine hK.out _ _ ?_
   exact ⟨true, c2, c4, true, c8, c10, false, r12, x0, .map (some k), x7, k, rfl, rfl, ⟨k1.on I.bel g1, fun _ => ⟨rfl, g1, (M1.mono (by cases c2 <;> cases c4 <;> cases c8 <;> cases c10 <;> decide)).eqv (ldF_6 _ _ _ _)⟩, (fun h => by cases h), (fun h => by cases h), fun h => absurd (I.R h).2 (by decide)⟩⟩
  | 7, _ =>
   exact absurd (show true = false from hun) (by decide)
  | 8, _ =>
   obtain rfl : c8 = false := hun
   obtain ⟨o2, ho2, hall⟩ := hall
   cases ho2
   obtain rfl : m0 = true := hall ⟨0, .data⟩ (by simp) rfl
   clear hall
   cases ho
   obtain ⟨e1, g1, M⟩ := I.A rfl
   subst e1
   have hv : v11 = false := by cases v11 with | false => rfl | true => (have h := I.V rfl; simp at h)
   subst hv
   refine mm_ins (by rfl) rfl rfl rfl rfl M (by cases c2 <;> cases c4 <;> cases c6 <;> cases c10 <;> decide) ⟨by decide, by decide⟩ ⟨by decide, by decide⟩ ⟨by decide, by decide⟩ ?_
   intro w2 M1 k1
   simp only [Act.put]
   refine hK.out _ _ ?_
   exact ⟨true, c2, c4, c6, true, c10, false, r12, x0, .map (some k), x7, k, rfl, rfl, ⟨k1.on I.bel g1, fun _ => ⟨rfl, g1, (M1.mono (by cases c2 <;> cases c4 <;> cases c6 <;> cases c10 <;> decide)).eqv (ldF_8 _ _ _ _)⟩, (fun h => by cases h), (fun h => by cases h), fun h => absurd (I.R h).2 (by decide)⟩⟩
  | 9, _ =>
   exact absurd (show true = false from hun) (by decide)
  | 10, _ =>
   obtain rfl : c10 = false := hun
   obtain ⟨o2, ho2, hall⟩ := hall
   cases ho2
   obtain rfl : m0 = true := hall ⟨0, .data⟩ (by simp) rfl
   clear hall
   cases ho
   obtain ⟨e1, g1, M⟩ := I.A rfl
   subst e1
   have hv : v11 = false := by cases v11 with | false => rfl | true => (have h := I.V rfl; simp at h)
   subst hv
   refine mm_ins (by rfl) rfl rfl rfl rfl M (by cases c2 <;> cases c4 <;> cases c6 <;> cases c8 <;> decide) ⟨by decide, by decide⟩ ⟨by decide, by decide⟩ ⟨by decide, by decide⟩ ?_
   intro w2 M1 k1
   simp only [Act.put]
   refine hK.out _ _ ?_
   exact ⟨true, c2, c4, c6, c8, true, false, r12, x0, .map (some k), x7, k, rfl, rfl, ⟨k1.on I.bel g1, fun _ => ⟨rfl, g1, (M1.mono (by cases c2 <;> cases c4 <;> cases c6 <;> cases c8 <;> decide)).eqv (ldF_10 _ _ _ _)⟩, (fun h => by cases h), (fun h => by cases h), fun h => absurd (I.R h).2 (by decide)⟩⟩
  | 11, _ =>
   obtain rfl : v11 = false := hun
   obtain ⟨o2, ho2, hall⟩ := hall
   cases ho2
   obtain rfl : m0 = true := hall ⟨0, .data⟩ (by simp) rfl
   obtain rfl : c2 = true := hall ⟨2, .data⟩ (by simp) rfl
   obtain rfl : c4 = true := hall ⟨4, .data⟩ (by simp) rfl
   obtain rfl : c6 = true := hall ⟨6, .data⟩ (by simp) rfl
   obtain rfl : c8 = true := hall ⟨8, .data⟩ (by simp) rfl
   obtain rfl : c10 = true := hall ⟨10, .data⟩ (by simp) rfl
   clear hall
   cases ho
   obtain ⟨e1, g1, M⟩ := I.A rfl
   subst e1
   go_simp
   refine hK.out _ _ ?_
   exact ⟨true, true, true, true, true, true, true, r12, x0, .map (some k), .map (some k), k, rfl, rfl, ⟨I.bel, fun _ => ⟨rfl, g1, M⟩, (fun h => by cases h), fun _ => ⟨rfl, rfl, rfl, rfl, rfl, rfl⟩, fun h => ⟨(I.R h).1, rfl⟩⟩⟩
  | 12, _ =>
   obtain rfl : r12 = false := hun
   obtain ⟨o2, ho2, hall⟩ := hall
   cases ho2
   obtain rfl : v11 = true := hall ⟨11, .data⟩ (by simp) rfl
   clear hall
   cases ho
   obtain ⟨e1, rfl, rfl, rfl, rfl, rfl⟩ := I.V rfl
   subst e1
   go_simp
   refine hK.out _ _ ?_
   exact ⟨m0, true, true, true, true, true, true, true, .map (some k), x1, .map (some k), k, rfl, rfl, ⟨I.bel, I.A, I.va, I.V, fun _ => ⟨rfl, rfl⟩⟩⟩
 ·intro L a wi hr hI
  obtain ⟨m0, c2, c4, c6, c8, c10, v11, r12, x0, x1, x7, k, rfl, rfl, I⟩ := hI
  obtain rfl : m0 = true := by cases m0 with | true => rfl | false => exact (no_ready hr (i := 0) rfl rfl rfl).elim
  obtain rfl : c2 = true := by cases c2 with | true => rfl | false => exact (no_ready hr (i := 2) rfl rfl rfl).elim
  obtain rfl : c4 = true := by cases c4 with | true => rfl | false => exact (no_ready hr (i := 4) rfl rfl rfl).elim
  obtain rfl : c6 = true := by cases c6 with | true => rfl | false => exact (no_ready hr (i := 6) rfl rfl rfl).elim
  obtain rfl : c8 = true := by cases c8 with | true => rfl | false => exact (no_ready hr (i := 8) rfl rfl rfl).elim
  obtain rfl : c10 = true := by cases c10 with | true => rfl | false => exact (no_ready hr (i := 10) rfl rfl rfl).elim
  obtain rfl : v11 = true := by cases v11 with | true => rfl | false => exact (no_ready hr (i := 11) rfl rfl rfl).elim
  obtain rfl : r12 = true := by cases r12 with | true => rfl | false => exact (no_ready hr (i := 12) rfl rfl rfl).elim
  obtain ⟨e1, g1, M⟩ := I.A rfl
  obtain ⟨e0, -⟩ := I.R rfl
  subst e0
  refine put_cont hKK ?_
  exact cont _ k _ _ _ _ _ _ _ (bel_then K1 I.bel) (Nat.le_trans l1 g1) M
 ·exact ⟨false, false, false, false, false, false, false, false, _, _, _, 0, rfl, rfl, ⟨Below.refl _ _, (fun h => by cases h), fun _ => ⟨rfl, rfl, rfl, rfl, rfl, rfl⟩, (fun h => by cases h), (fun h => by cases h)⟩⟩
end Go.Proofs.YtbophanlmkbfeaaGreatDoor
namespace Go.Proofs.YtbophanlmkbfeaaGreatDoor
open Go.RowKit
structure Pl where
 mode : Int
 calm : Int
 good : Int
 miss : Int
 lost : Int
 faults : Int
structure Sn where
 gap : Bool
 gyro : Bool
 slow : Bool
 pair : Bool
 lit : Bool
 bad : Bool
 pass : Bool
 order : Int
def plV (p : Pl) : Value := .agg #[.int .i64 p.mode, .int .i64 p.calm, .int .i64 p.good, .int .i64 p.miss, .int .i64 p.lost, .int .i64 p.faults]
def snV (s : Sn) : Value := .agg #[.bool s.gap, .bool s.gyro, .bool s.slow, .bool s.pair, .bool s.lit, .bool s.bad, .bool s.pass, .int .i64 s.order]
def goS (k : Int) (p : Pl) : Pl := ⟨k, 0, 0, 0, 0, p.faults⟩
def failS (x : Int) (p : Pl) : Pl := ⟨1, 0, 0, 0, 0, bits .or .i64 p.faults x⟩
def safeS (p : Pl) (s : Sn) : Pl := if s.order = 2 then ⟨0, 0, 0, 0, 0, 0⟩ else p
theorem Pl.ext {a b c d e f a' b' c' d' e' f' : Int} (h0 : a = a') (h1 : b = b') (h2 : c = c') (h3 : d = d') (h4 : e = e') (h5 : f = f') : (⟨a, b, c, d, e, f⟩ : Pl) = ⟨a', b', c', d', e', f'⟩ := by subst h0 h1 h2 h3 h4 h5; rfl
end Go.Proofs.YtbophanlmkbfeaaGreatDoor
namespace Go.Proofs.YtbophanlmkbfeaaGreatDoor
open Go.RowKit
def cPl : Dc Pl where
 enc p := plV p
 dec v := match v with
  | .agg ⟨[.int .i64 a, .int .i64 b, .int .i64 c, .int .i64 d, .int .i64 e, .int .i64 f]⟩ => some ⟨a, b, c, d, e, f⟩
  | _ => none
 law v x h := by
  split at h
  ·cases h; rfl
  ·cases h
 np _ := rfl
def cSn : Dc Sn where
 enc s := snV s
 dec v := match v with
  | .agg ⟨[.bool a, .bool b, .bool c, .bool d, .bool e, .bool f, .bool g, .int .i64 o]⟩ => some ⟨a, b, c, d, e, f, g, o⟩
  | _ => none
 law v x h := by
  split at h
  ·cases h; rfl
  ·cases h
 np _ := rfl
abbrev Fp := { q : Int × Pl // decide (ldF true true true true true q.2.mode q.1 = 1) = true }
def lFp : Dl Fp where
 enc q := [.int .i64 q.1.1, plV q.1.2]
 dec l := match l with
  | [.int .i64 x, .agg ⟨[.int .i64 a, .int .i64 b, .int .i64 c, .int .i64 d, .int .i64 e, .int .i64 f]⟩] => if h : decide (ldF true true true true true a x = 1) = true then some ⟨(x, ⟨a, b, c, d, e, f⟩), h⟩ else none
  | _ => none
 law v x h := by
  split at h
  ·split at h
   ·cases h; rfl
   ·cases h
  ·cases h
 np x v hv := by
  simp only [List.mem_cons, List.not_mem_nil, or_false] at hv
  rcases hv with rfl | rfl <;> rfl
def cP2 : Dc { p : Pl // decide (p.mode = 2) = true } where
 enc p := plV p.1
 dec v := match v with
  | .agg ⟨[.int .i64 a, .int .i64 b, .int .i64 c, .int .i64 d, .int .i64 e, .int .i64 f]⟩ => if h : decide (a = 2) = true then some ⟨⟨a, b, c, d, e, f⟩, h⟩ else none
  | _ => none
 law v x h := by
  split at h
  ·split at h
   ·cases h; rfl
   ·cases h
  ·cases h
 np _ := rfl
def cntW (n : Int) (it : Bool) : Int := if it then if 100 ≤ n then 100 else IntKind.i64.wrap (n + 1) else 0
def detW (p : Pl) (s : Sn) : Pl := if 3 ≤ cntW p.calm (s.gyro && s.slow) then goS 1 p else ⟨p.mode, cntW p.calm (s.gyro && s.slow), p.good, p.miss, p.lost, p.faults⟩
def coaW (p : Pl) (s : Sn) : Pl := bif s.gyro && !s.slow then goS 0 p else if 2 ≤ cntW p.good (s.gyro && s.pair && s.lit) then goS 2 p else ⟨p.mode, p.calm, cntW p.good (s.gyro && s.pair && s.lit), p.miss, p.lost, p.faults⟩
def finW (p : Pl) (s : Sn) : Pl := bif s.bad then failS 4 p else if 3 ≤ cntW p.lost (!s.gyro) then failS 2 p else
 bif s.pair && s.lit then (if 5 ≤ cntW p.miss (!s.pass) then failS 8 p else ⟨p.mode, p.calm, p.good, cntW p.miss (!s.pass), cntW p.lost (!s.gyro), p.faults⟩) else ⟨p.mode, p.calm, p.good, p.miss, cntW p.lost (!s.gyro), p.faults⟩
def nextV (p : Pl) (s : Sn) : Pl := if p.mode = 3 then safeS p s else if p.mode = 0 then detW p s else
 if p.mode = 1 then (bif s.gap then failS 1 p else coaW p s) else if p.mode = 2 then (bif s.gap then failS 1 p else finW p s) else goS 3 p
def nextW (p : Pl) (s : Sn) : Pl := if s.order = 1 then goS 3 p else nextV p s
theorem cntW_f (n : Int) : cntW n false = 0 := rfl
theorem if_3 {α : Type} {A B : α} : (if (3 : Int) ≤ 0 then A else B) = B := if_neg (by decide)
end Go.Proofs.YtbophanlmkbfeaaGreatDoor
namespace Go.Proofs.YtbophanlmkbfeaaGreatDoor
open Go.RowKit
set_option maxRecDepth 100000
set_option maxHeartbeats 20000000
theorem mmix : Tryz.prog.follows .mixedOrders = true := by kernel_rfl
theorem counted_fx : PureOk Tryz.prog 197 (then' cI (lone' cB)) (fun x => cntW x.1 x.2) cI := pure_sx (tbl := []) (dirty := fun _ => []) (n := 8) mmix Tryz.func197 rfl (fun x Post => by
    refine Eq.trans (b := ?m) ?x (Eq.symm ?y)
    case y => unfold cntW; simp only [← vif_le (K := PJ cI Post), ← vif_bn (K := PJ cI Post)]; exact rfl
    case x => kernel_rfl)
def ctcounted : Ct Tryz.prog := pureCt Tryz.prog 197 (then' cI (lone' cB)) (fun x => cntW x.1 x.2) cI (go_of Tryz.func197 (by kernel_rfl) (by kernel_rfl)) counted_fx
theorem goTo_fx : PureOk Tryz.prog 129 (then' cI (lone' cPl)) (fun x => goS x.1 x.2) cPl := pure_sx (tbl := []) (dirty := fun _ => []) (n := 8) mmix Tryz.func129 rfl (fun x Post => by kernel_rfl)
def ctgoTo : Ct Tryz.prog := pureCt Tryz.prog 129 (then' cI (lone' cPl)) (fun x => goS x.1 x.2) cPl (go_of Tryz.func129 (by kernel_rfl) (by kernel_rfl)) goTo_fx
theorem safe_fx : PureOk Tryz.prog 130 (then' cPl (lone' cSn)) (fun x => safeS x.1 x.2) cPl := pure_sx (tbl := [ctgoTo]) (dirty := fun _ => []) (n := 8) mmix Tryz.func130 rfl (fun x Post => by
    refine Eq.trans (b := ?m) ?x (Eq.symm ?y)
    case y => unfold safeS; simp only [← vif_ne (K := PJ cPl Post)]; exact rfl
    case x => kernel_rfl)
def ctsafe : Ct Tryz.prog := pureCt Tryz.prog 130 (then' cPl (lone' cSn)) (fun x => safeS x.1 x.2) cPl (go_of Tryz.func130 (by kernel_rfl) (by kernel_rfl)) safe_fx
theorem det_fx : PureOk Tryz.prog 131 (then' cPl (lone' cSn)) (fun x => detW x.1 x.2) cPl := pure_sx (tbl := [ctcounted, ctgoTo]) (dirty := fun _ => []) (n := 8) mmix Tryz.func131 rfl (fun x Post => by
    obtain ⟨p, a, b, c, d, e, f, g, o⟩ := x
    refine Eq.trans (b := ?m) ?x (Eq.symm ?y)
    case y => unfold detW; simp only [← vif_le (K := PJ cPl Post)]; exact rfl
    case x => cases b <;> cases c <;> kernel_rfl)
def ctdet : Ct Tryz.prog := pureCt Tryz.prog 131 (then' cPl (lone' cSn)) (fun x => detW x.1 x.2) cPl (go_of Tryz.func131 (by kernel_rfl) (by kernel_rfl)) det_fx
theorem coa_fx : PureOk Tryz.prog 133 (then' cPl (lone' cSn)) (fun x => coaW x.1 x.2) cPl := pure_sx (tbl := [ctcounted, ctgoTo]) (dirty := fun _ => []) (n := 8) mmix Tryz.func133 rfl (fun x Post => by
    obtain ⟨p, a, b, c, d, e, f, g, o⟩ := x
    cases b
    · refine Eq.trans (b := ?m1) ?x1 (Eq.symm ?y1)
      case y1 => unfold coaW; simp only [Bool.false_and, cond_false, ← vif_le (K := PJ cPl Post)]; exact rfl
      case x1 => kernel_rfl
    cases c
    · kernel_rfl
    cases d
    · refine Eq.trans (b := ?m2) ?x2 (Eq.symm ?y2)
      case y2 => unfold coaW; simp only [Bool.true_and, Bool.not_true, Bool.false_and, cond_false, ← vif_le (K := PJ cPl Post)]; exact rfl
      case x2 => kernel_rfl
    cases e
    · refine Eq.trans (b := ?m3) ?x3 (Eq.symm ?y3)
      case y3 => unfold coaW; simp only [Bool.true_and, Bool.not_true, cond_false, ← vif_le (K := PJ cPl Post)]; exact rfl
      case x3 => kernel_rfl
    · refine Eq.trans (b := ?m4) ?x4 (Eq.symm ?y4)
      case y4 => unfold coaW; simp only [Bool.true_and, Bool.not_true, cond_false, ← vif_le (K := PJ cPl Post)]; exact rfl
      case x4 => kernel_rfl)
def ctcoa : Ct Tryz.prog := pureCt Tryz.prog 133 (then' cPl (lone' cSn)) (fun x => coaW x.1 x.2) cPl (go_of Tryz.func133 (by kernel_rfl) (by kernel_rfl)) coa_fx
theorem goTo_any (k m c g i l f : Int) (w : World) : Calls Tryz.prog 129 #[.int .i64 k, .agg #[.int .i64 m, .int .i64 c, .int .i64 g, .int .i64 i, .int .i64 l, .int .i64 f]] w fun e w' => e = .returned (.agg #[.int .i64 k, .int .i64 0, .int .i64 0, .int .i64 0, .int .i64 0, .int .i64 f]) ∧ Below w.heap.size w w' := by
 go_enter Tryz.func129, Tryz.ntmps129
 go_wp2_with (with_reducible refine post_stop ?_)
 exact ⟨bodyPost_ret (v := .agg #[.int .i64 k, .int .i64 0, .int .i64 0, .int .i64 0, .int .i64 0, .int .i64 f]) (by simp [results, Tryz.results129, go_sem]) rfl ⟨rfl, bel_al (bel_al (Below.refl _ _) _) _⟩⟩
theorem fail_any (x m c g i l f : Int) (w : World) (hx : I64 x) (hm : I64 m) (hl : ldF true true true true true m x = 1) : Calls Tryz.prog 132 #[.int .i64 x, .agg #[.int .i64 m, .int .i64 c, .int .i64 g, .int .i64 i, .int .i64 l, .int .i64 f]] w fun e w' => e = .returned (.agg #[.int .i64 1, .int .i64 0, .int .i64 0, .int .i64 0, .int .i64 0, .int .i64 (bits .or .i64 f x)]) ∧ Below w.heap.size w w' := by
 go_enter Tryz.func132, Tryz.ntmps132
 go_wp2_with fail
 have A0 : Arr w.heap.size [.int .i64 m, .int .i64 c, .int .i64 g, .int .i64 i, .int .i64 l, .int .i64 (bits .or .i64 f x)] ((w.alloc (.cells #[.int .i64 m, .int .i64 c, .int .i64 g, .int .i64 i, .int .i64 l, .int .i64 (bits .or .i64 f x)] 26)).alloc (.cells #[.int .i64 0, .int .i64 0, .int .i64 0, .int .i64 0, .int .i64 0, .int .i64 0] 26)).drew := ((Arr_at w _ [.int .i64 m, .int .i64 c, .int .i64 g, .int .i64 i, .int .i64 l, .int .i64 (bits .or .i64 f x)] 26 rfl).alloc _).drew
 have A1 : Arr (w.heap.size + 1) [.int .i64 0, .int .i64 0, .int .i64 0, .int .i64 0, .int .i64 0, .int .i64 0] ((w.alloc (.cells #[.int .i64 m, .int .i64 c, .int .i64 g, .int .i64 i, .int .i64 l, .int .i64 (bits .or .i64 f x)] 26)).alloc (.cells #[.int .i64 0, .int .i64 0, .int .i64 0, .int .i64 0, .int .i64 0, .int .i64 0] 26)).drew := (Arr_at _ _ [.int .i64 0, .int .i64 0, .int .i64 0, .int .i64 0, .int .i64 0, .int .i64 0] 26 (by simp)).drew
 have K0 : Below w.heap.size w ((w.alloc (.cells #[.int .i64 m, .int .i64 c, .int .i64 g, .int .i64 i, .int .i64 l, .int .i64 (bits .or .i64 f x)] 26)).alloc (.cells #[.int .i64 0, .int .i64 0, .int .i64 0, .int .i64 0, .int .i64 0, .int .i64 0] 26)).drew := Below.drew (bel_al (bel_al (Below.refl _ _) _) _)
 refine wp_region_held_drew (S := fun w' => Arr w.heap.size [.int .i64 m, .int .i64 c, .int .i64 g, .int .i64 i, .int .i64 l, .int .i64 (bits .or .i64 f x)] w') (by kernel_rfl) A0 (fun zH => ?_)
 generalize ((w.alloc (.cells #[.int .i64 m, .int .i64 c, .int .i64 g, .int .i64 i, .int .i64 l, .int .i64 (bits .or .i64 f x)] 26)).alloc (.cells #[.int .i64 0, .int .i64 0, .int .i64 0, .int .i64 0, .int .i64 0, .int .i64 0] 26)).drew = w0 at *
 refine zT 1 rfl (by kernel_rfl) (fun _ _ _ => id) rfl (fun _ _ => by go_simp <;> with_reducible rfl) zH ?_
 simp only [Act.put, zA, zB, zC]
 refine zT 2 rfl (by kernel_rfl) (fun _ _ _ => id) rfl (fun wx hS => by have cw_0 : wx.cell? ⟨w.heap.size, 0, none⟩ = some (.int .i64 m) := hS.c 0 (zD rfl); have cw_1 : wx.cell? ⟨w.heap.size, 1, none⟩ = some (.int .i64 c) := hS.c 1 (zD rfl); have cw_2 : wx.cell? ⟨w.heap.size, 2, none⟩ = some (.int .i64 g) := hS.c 2 (zD rfl); have cw_3 : wx.cell? ⟨w.heap.size, 3, none⟩ = some (.int .i64 i) := hS.c 3 (zD rfl); have cw_4 : wx.cell? ⟨w.heap.size, 4, none⟩ = some (.int .i64 l) := hS.c 4 (zD rfl); have cw_5 : wx.cell? ⟨w.heap.size, 5, none⟩ = some (.int .i64 (bits .or .i64 f x)) := hS.c 5 (zD rfl); go_simp <;> with_reducible rfl) zH ?_
 simp only [Act.put, zA, zB, zC]
 refine zT 3 rfl (by kernel_rfl) (fun _ _ _ => id) rfl (fun _ _ => by go_simp <;> with_reducible rfl) zH ?_
 simp only [Act.put, zA, zB, zC]
 refine zT 4 rfl (by kernel_rfl) (fun _ _ _ => id) rfl (fun _ _ => by go_simp <;> with_reducible rfl) zH ?_
 simp only [Act.put, zA, zB, zC]
 refine zT 6 rfl (by kernel_rfl) (fun _ _ _ => id) rfl (fun wx hS => by have cw_0 : wx.cell? ⟨w.heap.size, 0, none⟩ = some (.int .i64 m) := hS.c 0 (zD rfl); have cw_1 : wx.cell? ⟨w.heap.size, 1, none⟩ = some (.int .i64 c) := hS.c 1 (zD rfl); have cw_2 : wx.cell? ⟨w.heap.size, 2, none⟩ = some (.int .i64 g) := hS.c 2 (zD rfl); have cw_3 : wx.cell? ⟨w.heap.size, 3, none⟩ = some (.int .i64 i) := hS.c 3 (zD rfl); have cw_4 : wx.cell? ⟨w.heap.size, 4, none⟩ = some (.int .i64 l) := hS.c 4 (zD rfl); have cw_5 : wx.cell? ⟨w.heap.size, 5, none⟩ = some (.int .i64 (bits .or .i64 f x)) := hS.c 5 (zD rfl); go_simp <;> with_reducible rfl) zH ?_
 simp only [Act.put, zA, zB, zC]
 refine zK 0 (by kernel_rfl) rfl (fun K hK => ?_)
 go_simp
 refine (leads_any _).mono ?_
 rintro e w1 ⟨k, rfl, hk, M, b1⟩
 have A0_1 := A0.below b1
 have A1_1 := A1.below b1
 have K1 := bel_then K0 b1
 clear zH
 refine hK.out _ _ A0_1 (fun zH => ?_)
 clear hK K A0 A1 K0
 have Lk := M.look hm hx
 rw [hl] at Lk
 refine zK 5 (by kernel_rfl) rfl (fun K hK => ?_)
 go_simp
 refine hK.out _ _ A0_1 (fun zH => ?_)
 clear hK K Lk
 refine zK 7 (by kernel_rfl) rfl (fun K hK => ?_)
 go_simp
 refine (goTo_any 1 m c g i l (bits .or .i64 f x) _).mono ?_
 rintro e w2 ⟨rfl, b2⟩
 have A0_2 := A0_1.below b2
 have A1_2 := A1_1.below b2
 have K2 := bel_then K1 b2
 clear zH
 refine hK.out _ _ A0_2 (fun zH => ?_)
 clear hK K A0_1 A1_1 K1
 have cz_0 : w2.cell? ⟨(w.heap.size + 1), 0, none⟩ = some (.int .i64 0) := A1_2.c 0 (zD rfl)
 have gz_0 := A1_2.f 0 (zD rfl)
 have cz_1 : w2.cell? ⟨(w.heap.size + 1), 1, none⟩ = some (.int .i64 0) := A1_2.c 1 (zD rfl)
 have gz_1 := A1_2.f 1 (zD rfl)
 have cz_2 : w2.cell? ⟨(w.heap.size + 1), 2, none⟩ = some (.int .i64 0) := A1_2.c 2 (zD rfl)
 have gz_2 := A1_2.f 2 (zD rfl)
 have cz_3 : w2.cell? ⟨(w.heap.size + 1), 3, none⟩ = some (.int .i64 0) := A1_2.c 3 (zD rfl)
 have gz_3 := A1_2.f 3 (zD rfl)
 have cz_4 : w2.cell? ⟨(w.heap.size + 1), 4, none⟩ = some (.int .i64 0) := A1_2.c 4 (zD rfl)
 have gz_4 := A1_2.f 4 (zD rfl)
 have cz_5 : w2.cell? ⟨(w.heap.size + 1), 5, none⟩ = some (.int .i64 0) := A1_2.c 5 (zD rfl)
 have gz_5 := A1_2.f 5 (zD rfl)
 have l2 := A1_2.lies
 refine zK 8 (by kernel_rfl) rfl (fun K hK => ?_)
 go_simp
 refine hK.out _ _ ((((((A0_2.new (w.heap.size + 1) 0 (by omega) (.int .i64 1)).new (w.heap.size + 1) 1 (by omega) (.int .i64 0)).new (w.heap.size + 1) 2 (by omega) (.int .i64 0)).new (w.heap.size + 1) 3 (by omega) (.int .i64 0)).new (w.heap.size + 1) 4 (by omega) (.int .i64 0)).new (w.heap.size + 1) 5 (by omega) (.int .i64 (bits .or .i64 f x))) (fun zH => ?_)
 refine wpAnyH_done (by kernel_rfl) ?_ _
 have A1_3 := ((((((A1_2.put 0 (zD rfl) (.int .i64 1) [.int .i64 1, .int .i64 0, .int .i64 0, .int .i64 0, .int .i64 0, .int .i64 0] rfl).put 1 (zD rfl) (.int .i64 0) [.int .i64 1, .int .i64 0, .int .i64 0, .int .i64 0, .int .i64 0, .int .i64 0] rfl).put 2 (zD rfl) (.int .i64 0) [.int .i64 1, .int .i64 0, .int .i64 0, .int .i64 0, .int .i64 0, .int .i64 0] rfl).put 3 (zD rfl) (.int .i64 0) [.int .i64 1, .int .i64 0, .int .i64 0, .int .i64 0, .int .i64 0, .int .i64 0] rfl).put 4 (zD rfl) (.int .i64 0) [.int .i64 1, .int .i64 0, .int .i64 0, .int .i64 0, .int .i64 0, .int .i64 0] rfl).put 5 (zD rfl) (.int .i64 (bits .or .i64 f x)) [.int .i64 1, .int .i64 0, .int .i64 0, .int .i64 0, .int .i64 0, .int .i64 (bits .or .i64 f x)] rfl)
 have K3 := (bel_new (bel_new (bel_new (bel_new (bel_new (bel_new K2 (w.heap.size + 1) 0 (by omega) (.int .i64 1)) (w.heap.size + 1) 1 (by omega) (.int .i64 0)) (w.heap.size + 1) 2 (by omega) (.int .i64 0)) (w.heap.size + 1) 3 (by omega) (.int .i64 0)) (w.heap.size + 1) 4 (by omega) (.int .i64 0)) (w.heap.size + 1) 5 (by omega) (.int .i64 (bits .or .i64 f x)))
 clear zH hK K
 go_wp2_with (with_reducible refine post_stop ?_)
 exact ⟨bodyPost_ret (v := .agg #[.int .i64 1, .int .i64 0, .int .i64 0, .int .i64 0, .int .i64 0, .int .i64 (bits .or .i64 f x)]) (results_arr Tryz.results132 A1_3 rfl (by kernel_rfl) (by kernel_rfl)) rfl ⟨rfl, K3⟩⟩
theorem fp_in {m x : Int} (h : decide (ldF true true true true true m x = 1) = true) : I64 x ∧ I64 m ∧ ldF true true true true true m x = 1 := by
 have h := of_decide_eq_true h
 refine ⟨?_, ?_, h⟩
 all_goals
  unfold ldF at h
  split at h
  ·rename_i c
   exact ⟨by omega, by omega⟩
  ·omega
theorem fail_fx : PureOk Tryz.prog 132 lFp (fun q => failS q.1.1 q.1.2) cPl := fun q w _ => fail_any q.1.1 q.1.2.mode q.1.2.calm q.1.2.good q.1.2.miss q.1.2.lost q.1.2.faults w (fp_in q.2).1 (fp_in q.2).2.1 (fp_in q.2).2.2
def ctfail : Ct Tryz.prog := pureCt Tryz.prog 132 lFp (fun q => failS q.1.1 q.1.2) cPl (go_of Tryz.func132 (by kernel_rfl) (by kernel_rfl)) fail_fx
theorem fin_fx : PureOk Tryz.prog 134 (then' cP2 (lone' cSn)) (fun x => finW x.1.1 x.2) cPl := pure_sx (tbl := [ctcounted, ctfail]) (dirty := fun _ => []) (n := 8) mmix Tryz.func134 rfl (fun x Post => by
    obtain ⟨⟨⟨M, c, g, i, l, f⟩, hM⟩, a, gyro, b, pair, lit, bad, pass, o⟩ := x
    have hM := of_decide_eq_true hM
    dsimp only at hM
    subst hM
    cases bad
    · cases gyro
      · cases pair
        · refine Eq.trans (b := ?m21) ?x21 (Eq.symm ?y21)
          case y21 => unfold finW failS; simp only [cond_false, Bool.not_false, Bool.false_and, ← vif_le (K := PJ cPl Post)]; exact rfl
          case x21 => kernel_rfl
        cases lit
        · refine Eq.trans (b := ?m22) ?x22 (Eq.symm ?y22)
          case y22 => unfold finW failS; simp only [cond_false, Bool.not_false, Bool.and_false, ← vif_le (K := PJ cPl Post)]; exact rfl
          case x22 => kernel_rfl
        · refine Eq.trans (b := ?m23) ?x23 (Eq.symm ?y23)
          case y23 => unfold finW failS; simp only [cond_false, cond_true, Bool.not_false, Bool.and_true, ← vif_le (K := PJ cPl Post)]; exact rfl
          case x23 => kernel_rfl
      · cases pair
        · refine Eq.trans (b := ?m24) ?x24 (Eq.symm ?y24)
          case y24 => unfold finW failS; simp only [cond_false, Bool.not_true, Bool.false_and, cntW_f, if_3]; exact rfl
          case x24 => kernel_rfl
        cases lit
        · refine Eq.trans (b := ?m25) ?x25 (Eq.symm ?y25)
          case y25 => unfold finW failS; simp only [cond_false, Bool.not_true, Bool.and_false, cntW_f, if_3]; exact rfl
          case x25 => kernel_rfl
        · refine Eq.trans (b := ?m26) ?x26 (Eq.symm ?y26)
          case y26 => unfold finW failS; simp only [cond_false, cond_true, Bool.not_true, Bool.and_true, cntW_f, if_3, ← vif_le (K := PJ cPl Post)]; exact rfl
          case x26 => kernel_rfl
    · show _ = _
      kernel_rfl)
def ctfin : Ct Tryz.prog := pureCt Tryz.prog 134 (then' cP2 (lone' cSn)) (fun x => finW x.1.1 x.2) cPl (go_of Tryz.func134 (by kernel_rfl) (by kernel_rfl)) fin_fx
theorem next_fx : PureOk Tryz.prog 60 (then' cPl (lone' cSn)) (fun x => nextW x.1 x.2) cPl := pure_sx (tbl := [ctgoTo, ctsafe, ctdet, ctfail, ctcoa, ctfin]) (dirty := fun _ => []) (n := 8) mmix Tryz.func60 rfl (fun x Post => by
    obtain ⟨⟨M, c, g, i, l, f⟩, gap, gyro, slow, pair, lit, bad, pass, o⟩ := x
    refine Eq.trans (b := vif (decide (o = 1)) (PJ cPl Post (goS 3 ⟨M, c, g, i, l, f⟩)) (PJ cPl Post (nextV ⟨M, c, g, i, l, f⟩ ⟨gap, gyro, slow, pair, lit, bad, pass, o⟩))) ?x vif_eq
    rcases M with n | n
    · rcases n with _ | _ | _ | _ | n
      · show _ = _; kernel_rfl
      · cases gap <;> (show _ = _; kernel_rfl)
      · cases gap <;> (show _ = _; kernel_rfl)
      · show _ = _; kernel_rfl
      · show _ = _; kernel_rfl
    · show _ = _; kernel_rfl)
end Go.Proofs.YtbophanlmkbfeaaGreatDoor
