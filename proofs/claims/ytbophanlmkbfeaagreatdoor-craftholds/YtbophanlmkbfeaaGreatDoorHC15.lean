/-
A part.
A part.
A part.
A part.
A part.
-/
import Derived.Maps.OwnOps
import Derived.Maps.Views
import Derived.WideKeyPair
import Derived.DeepKeys4
import Derived.Test.YtbophanlmkbfeaaGreatDoorHC14
import Derived.Test.YtbophanlmkbfeaaGreatDoorHC11
namespace Go.Proofs.YtbophanlmkbfeaaGreatDoor
open Go.RowKit
abbrev dHea : Dl Hea := dcat 5 (dT 5) (dcat 5 (dT 5) (dcat 5 (dT 5) (lone' cI)))
def zeroHea : Hea := ((0, 0, 0, 0, 0, ()), (0, 0, 0, 0, 0, ()), (0, 0, 0, 0, 0, ()), 0)
def zeroCra : Cra := (false, 0, noBytes, (0, 0, 0, 0, 0, 0, ()), false, (0, 0, 0, 0, 0, 0, 0, ()), (false, (0, 0, 0, 0, 0, 0, 0, ())), zeroG, (0, 0, 0, ()))
def leftC (c : Cra) (l : ByteArray) : Cra := (c.1, c.2.1, l, c.2.2.2)
def hearW (F : Fs) (t : Int) (s : Cra × Hea) (f : Fra) : Cra × Hea :=
 if f.1 = 1 then senW F s.1 s.2 f t else if f.1 = 2 then senW F s.1 s.2 f t else if f.1 = 3 then senW F s.1 s.2 f t else if f.1 = 16 then ordC s.1 s.2 (F.oread f) else (rejC s.1, s.2)
def fraOf (f : UInt8 × List UInt8) : Fra := ((f.1.toNat : Nat), ⟨f.2.toArray⟩)
def begW (c : Cra) (L : List UInt8) : Cra := if ((scanL L).2.2 : Nat) > (0 : Int) then rejC (leftC c (restOf L)) else leftC c (restOf L)
def takeW (F : Fs) (c : Cra) (t : Int) (b : ByteArray) : Cra × Hea :=
 ((scanL (c.2.2.1 ++ b).data.toList).1.map fraOf).foldl (hearW F t) (begW c (c.2.2.1 ++ b).data.toList, zeroHea)
def tks : List Nat := [1, 3, 6, 7, 11, 32, 33, 31]
def tkF (t n i : Int) (sl : Value) (d : Nat → Value) : List Value := frm [(1, .int .i64 t), (3, ptr 0), (6, ptr 1), (7, ptr 2), (11, ptr 4), (32, .int .i64 n), (33, .int .i64 i), (31, sl)] d 67
def tkE (t n i : Int) (sl : Value) (d : Nat → Value) : List Value := vset ((tkF t n i sl d).set 34 (.bool (decide (i < n)))) (.tmp 34) false
def tkM (c : Cra) (h : Hea) (l : List (UInt8 × List UInt8)) : Xm := [dCra.enc c, dCra.enc zeroCra, dHea.enc zeroHea, cellsOf l, dHea.enc h]
def tkT (F : Fs) (h : FsOk F) : List (Ct Tryz.prog) := [ctrejected, cthearSensor F h, cthearGround F h]
def tkO (F : Fs) (h : FsOk F) (l : List (UInt8 × List UInt8)) : Ov := fun id => match id with
 | 1 => some fun _ _ => r1
 | 6 => some fun _ _ => r6 tks l
 | 8 => some fun _ _ => r8 l
 | 17 => some (cutBy Tryz.prog (tkT F h) (fun _ => []) 17 tks 67 5)
 | _ => none
def tkB (P : Program) : Code := cpart [true, true, true, true, true, false, true] (bodyOf P 23)
def tkL (P : Program) : Code := cpart [false, false] (tkB P)
def tkZ (P : Program) : Code := cpart [true, true, true, true, true, true] (bodyOf P 23)
section
variable (F : Fs) (h : FsOk F)
def nx (t nn i : Int) (sl : Value) (l : List (UInt8 × List UInt8)) (Q : VQ) (s : Cra × Hea) : Prop :=
 67 = 67 ∧ (ptrOk 5 sl && true) = true ∧ ∀ d, Q .normal (tkF t nn (IntKind.i64.wrap (i + 1)) sl d) (tkM s.1 s.2 l)
set_option maxRecDepth 100000 in
theorem tk_round (n : Nat) (t nn i : Int) (sl : Value) (d : Nat → Value) (l : List (UInt8 × List UInt8)) (c : Cra) (x : Hea) (Q : VQ) :
    swpO Tryz.prog (tkT F h) (fun _ => []) n (tkO F h l) (tkL Tryz.prog) Q (tkF t nn i sl d) (tkM c x l) =
      vif (decide (i < nn)) ((0 ≤ i ∧ i.toNat < l.length) ∧ SlOk sl l ∧ some (cellsOf l) = some (cellsOf l) ∧ 5 = 5 ∧ 36 < 67 ∧
        vif (decide ((frL l i).1 = 1)) (nx t nn i sl l Q (senW F c x (frL l i) t)) (vif (decide ((frL l i).1 = 2)) (nx t nn i sl l Q (senW F c x (frL l i) t)) (vif (decide ((frL l i).1 = 3)) (nx t nn i sl l Q (senW F c x (frL l i) t))
          (vif (decide ((frL l i).1 = 16)) (nx t nn i sl l Q (ordC c x (F.oread (frL l i)))) (nx t nn i sl l Q (rejC c, x))))))
      (Q (.exit 0) (tkE t nn i sl d) (tkM c x l)) := by kernel_rfl
theorem hear_vif (t nn i : Int) (sl : Value) (l : List (UInt8 × List UInt8)) (c : Cra) (x : Hea) (Q : VQ) :
    vif (decide ((frL l i).1 = 1)) (nx t nn i sl l Q (senW F c x (frL l i) t)) (vif (decide ((frL l i).1 = 2)) (nx t nn i sl l Q (senW F c x (frL l i) t)) (vif (decide ((frL l i).1 = 3)) (nx t nn i sl l Q (senW F c x (frL l i) t))
          (vif (decide ((frL l i).1 = 16)) (nx t nn i sl l Q (ordC c x (F.oread (frL l i)))) (nx t nn i sl l Q (rejC c, x))))) = nx t nn i sl l Q (hearW F t (c, x) (frL l i)) := by
 generalize hE : nx t nn i sl l Q = E
 generalize frL l i = f
 unfold hearW
 dsimp only
 generalize senW F c x f t = A
 generalize ordC c x (F.oread f) = B
 generalize (rejC c, x) = C
 by_cases h1 : f.1 = 1
 ·rw [decide_eq_true h1, if_pos h1]; rfl
 rw [decide_eq_false h1, if_neg h1]
 by_cases h2 : f.1 = 2
 ·rw [decide_eq_true h2, if_pos h2]; rfl
 rw [decide_eq_false h2, if_neg h2]
 by_cases h3 : f.1 = 3
 ·rw [decide_eq_true h3, if_pos h3]; rfl
 rw [decide_eq_false h3, if_neg h3]
 by_cases h4 : f.1 = 16
 ·rw [decide_eq_true h4, if_pos h4]; rfl
 ·rw [decide_eq_false h4, if_neg h4]; rfl
theorem frL_at (pre rest : List (UInt8 × List UInt8)) (f : UInt8 × List UInt8) : frL (pre ++ f :: rest) (pre.length : Nat) = fraOf f := by
 unfold frL fraOf
 rw [Int.toNat_natCast, List.getElem?_append_right (Nat.le_refl _), Nat.sub_self]
 rfl
def TkR (F : Fs) (t : Int) (sl : Value) (l : List (UInt8 × List UInt8)) (G : VQ → List Value → Xm → Prop) : Prop := ∀ (nn i : Int) (d : Nat → Value) (c : Cra) (x : Hea) (Q : VQ), G Q (tkF t nn i sl d) (tkM c x l) =
      vif (decide (i < nn)) ((0 ≤ i ∧ i.toNat < l.length) ∧ SlOk sl l ∧ some (cellsOf l) = some (cellsOf l) ∧ 5 = 5 ∧ 36 < 67 ∧ nx t nn i sl l Q (hearW F t (c, x) (frL l i)))
      (Q (.exit 0) (tkE t nn i sl d) (tkM c x l))
theorem tk_loop {t : Int} {sl : Value} {l : List (UInt8 × List UInt8)} {G : VQ → List Value → Xm → Prop} (hG : TkR F t sl l G) (hl : l.length ≤ 5000) (hs : SlOk sl l) (hp : ptrOk 5 sl = true) (Q : VQ) (rest : List (UInt8 × List UInt8)) : ∀ (pre : List (UInt8 × List UInt8)), l = pre ++ rest → ∀ (d : Nat → Value) (s : Cra × Hea),
    (∀ i d, Q (.exit 0) (tkE t l.length i sl d) (tkM ((rest.map fraOf).foldl (hearW F t) s).1 ((rest.map fraOf).foldl (hearW F t) s).2 l)) →
    loopN (rest.length + 1) G Q (tkF t l.length pre.length sl d) (tkM s.1 s.2 l) := by
 induction rest with
 | nil =>
  intro pre e d s hQ
  have e1 : l.length = pre.length := by rw [e]; simp
  rw [List.length_nil, loopN, hG, decide_eq_false (by omega)]
  exact hQ _ d
 | cons f rest ih =>
  intro pre e d s hQ
  have e1 : l.length = pre.length + (rest.length + 1) := by rw [e]; simp
  rw [List.length_cons, loopN, hG, decide_eq_true (by omega)]
  refine ⟨⟨by omega, by rw [Int.toNat_natCast]; omega⟩, hs, rfl, rfl, by decide, rfl, by rw [hp]; rfl, fun d => ?_⟩
  have hw : IntKind.i64.wrap ((pre.length : Int) + 1) = ((pre ++ [f]).length : Nat) := by
   rw [IntKind.wrap_i64, List.length_append, List.length_singleton]
   omega
  have hf : frL l (pre.length : Nat) = fraOf f := by rw [e]; exact frL_at pre rest f
  rw [hw, hf]
  exact ih (pre ++ [f]) (by rw [e]; simp) d (hearW F t s (fraOf f)) hQ
theorem tk_row (n : Nat) (t : Int) (sl : Value) (l : List (UInt8 × List UInt8)) : TkR F t sl l (swpO Tryz.prog (tkT F h) (fun _ => []) n (tkO F h l) (tkL Tryz.prog)) := by
 intro nn i d c x Q
 rw [tk_round, hear_vif]
def tkQ (F : Fs) (h : FsOk F) (l : List (UInt8 × List UInt8)) (n : Nat) (Q : VQ) : VQ := fun e vt m => match e with
 | .normal => swpO Tryz.prog (tkT F h) (fun _ => []) n (tkO F h l) (tkZ Tryz.prog) Q vt m
 | e => Q e vt m
def tkX (F : Fs) (h : FsOk F) (l : List (UInt8 × List UInt8)) (n : Nat) (t : Int) (Q : VQ) (sl : Value) (c : Cra) : Prop :=
 SlOk sl l ∧ 33 < 67 ∧ 67 = 67 ∧ (ptrOk 5 sl && true) = true ∧ ∀ d, swpO Tryz.prog (tkT F h) (fun _ => []) n (tkO F h l) (tkB Tryz.prog) (tkQ F h l n Q) (tkF t l.length 0 sl d) (tkM c zeroHea l)
set_option maxRecDepth 100000 in
theorem tk_start (n : Nat) (t : Int) (c : Cra) (b : ByteArray) (Q : VQ) :
    swpO Tryz.prog (tkT F h) (fun _ => []) n (tkO F h (scanL (c.2.2.1 ++ b).data.toList).1) (bodyOf Tryz.prog 23) Q ((then' cCra (then' cI (lone' cS))).enc (c, t, b) ++ List.replicate ((fnOf Tryz.prog 23).ntmps - ((then' cCra (then' cI (lone' cS))).enc (c, t, b)).length) undef) [] =
      (c.2.2.1.size + b.size ≤ 5000 ∧ 3 = 3 ∧ 67 = 67 ∧ ∀ sl, SlOk sl (scanL (c.2.2.1 ++ b).data.toList).1 → vif (decide (((scanL (c.2.2.1 ++ b).data.toList).2.2 : Nat) > (0 : Int)))
        (tkX F h (scanL (c.2.2.1 ++ b).data.toList).1 n t Q sl (rejC (leftC c (restOf (c.2.2.1 ++ b).data.toList)))) (tkX F h (scanL (c.2.2.1 ++ b).data.toList).1 n t Q sl (leftC c (restOf (c.2.2.1 ++ b).data.toList)))) := by kernel_rfl
set_option maxRecDepth 100000 in
theorem tk_end (n : Nat) (t i nn : Int) (sl : Value) (d : Nat → Value) (l : List (UInt8 × List UInt8)) (c : Cra) (x : Hea) (Post : Value → Prop) :
    swpO Tryz.prog (tkT F h) (fun _ => []) n (tkO F h l) (tkZ Tryz.prog) (retQ Tryz.prog (fnOf Tryz.prog 23) (fun v _ => Post v)) (tkE t nn i sl d) (tkM c x l) = Post ((two' cCra cHea).enc (c, x)) := by kernel_rfl
set_option maxRecDepth 100000 in
theorem tk_ov (l : List (UInt8 × List UInt8)) (w : World) : OvOk Tryz.prog (tkO F h l) [] w [] [] (bodyOf Tryz.prog 23) := by
 refine ovOk_by (ns := [(1, #[(opOf Tryz.prog 23 1 0), (opOf Tryz.prog 23 1 1), (opOf Tryz.prog 23 1 2), (opOf Tryz.prog 23 1 3), (opOf Tryz.prog 23 1 4), (opOf Tryz.prog 23 1 5), (opOf Tryz.prog 23 1 6), (opOf Tryz.prog 23 1 7), (opOf Tryz.prog 23 1 8), (opOf Tryz.prog 23 1 9), (opOf Tryz.prog 23 1 10), (opOf Tryz.prog 23 1 11)], false), (6, #[(opOf Tryz.prog 23 6 0), (opOf Tryz.prog 23 6 1), (opOf Tryz.prog 23 6 2)], false), (8, #[(opOf Tryz.prog 23 8 0), (opOf Tryz.prog 23 8 1), (opOf Tryz.prog 23 8 2), (opOf Tryz.prog 23 8 3)], false), (17, opsOf Tryz.prog 23 17, false)]) (by kernel_rfl) ?_
 intro r hr
 rcases List.mem_cons.1 hr with rfl | hr
 ·intro R hR K Q bl vt m a w h r hK
  cases hR
  exact r1_sound (tC := 42) (tT := 9) (fn := 43) rfl (by kernel_rfl) (by kernel_rfl) rfl ⟨by kernel_rfl, by kernel_rfl, by kernel_rfl⟩ ⟨by kernel_rfl, by kernel_rfl, by kernel_rfl⟩ ⟨by kernel_rfl, by kernel_rfl, by kernel_rfl⟩ ⟨by kernel_rfl, by kernel_rfl, by kernel_rfl⟩ ⟨by kernel_rfl, by kernel_rfl, by kernel_rfl⟩ ⟨by kernel_rfl, by kernel_rfl, by kernel_rfl⟩ ⟨by kernel_rfl, by kernel_rfl, by kernel_rfl⟩ ⟨by kernel_rfl, by kernel_rfl, by kernel_rfl⟩ ⟨by kernel_rfl, by kernel_rfl, by kernel_rfl⟩ ⟨by kernel_rfl, by kernel_rfl, by kernel_rfl⟩ ⟨by kernel_rfl, by kernel_rfl, by kernel_rfl⟩ ⟨by kernel_rfl, by kernel_rfl, by kernel_rfl⟩ h r hK
 rcases List.mem_cons.1 hr with rfl | hr
 ·intro R hR K Q bl vt m a w h r hK
  cases hR
  exact r6_sound (tS := 64) (e := 49) (by decide) (by kernel_rfl) rfl ⟨by kernel_rfl, by kernel_rfl, by kernel_rfl⟩ ⟨by kernel_rfl, by kernel_rfl, by kernel_rfl⟩ ⟨by kernel_rfl, by kernel_rfl, by kernel_rfl⟩ h r hK
 rcases List.mem_cons.1 hr with rfl | hr
 ·intro R hR K Q bl vt m a w h r hK
  cases hR
  exact r8_sound (tS := 64) (tF := 49) (z := .agg #[.int .i64 0, .string ⟨#[]⟩]) (by kernel_rfl) (by kernel_rfl) (by kernel_rfl) (by kernel_rfl) rfl rfl ⟨by kernel_rfl, by kernel_rfl, by kernel_rfl⟩ ⟨by kernel_rfl, by kernel_rfl, by kernel_rfl⟩ ⟨by kernel_rfl, by kernel_rfl, by kernel_rfl⟩ ⟨by kernel_rfl, by kernel_rfl, by kernel_rfl⟩ h r hK
 rcases List.mem_cons.1 hr with rfl | hr
 ·intro R hR K Q bl vt m a w h r hK
  cases hR
  exact cutBy_sound xmixA (by decide) h r hK
 ·cases hr
theorem scanU_len : ∀ (f : Nat) (s : List UInt8), (scanU f s).1.length ≤ f
 | 0, _ => Nat.le_refl _
 | f + 1, s => by
  unfold scanU
  split
  ·exact Nat.zero_le _
  ·have := scanU_len f (s.drop 1)
   dsimp only
   omega
  ·rename_i n _
   have := scanU_len f (s.drop (n + 5))
   simp only [List.length_cons]
   omega
theorem scan_len (L : List UInt8) : (scanL L).1.length ≤ L.length := scanU_len _ L
set_option maxRecDepth 100000 in
theorem takes_at (h : FsOk F) (x : Cra × Int × ByteArray) (hs : x.1.2.2.1.size + x.2.2.size ≤ 5000) (w : World) (hw : GW w) :
    Calls Tryz.prog 23 ((then' cCra (then' cI (lone' cS))).enc x).toArray w fun e w' => e = .returned ((two' cCra cHea).enc (takeW F x.1 x.2.1 x.2.2)) ∧ Below w.heap.size w w' := by
 obtain ⟨c, t, b⟩ := x
 dsimp only at hs ⊢
 refine pure_atO (tbl := tkT F h) (dirty := fun _ => []) (n := (scanL (c.2.2.1 ++ b).data.toList).1.length + 1) (ov := tkO F h (scanL (c.2.2.1 ++ b).data.toList).1) xmixA (by kernel_rfl) (by kernel_rfl) (tk_ov F h _) ?_ w hw
 rw [tk_start]
 have hL : (scanL (c.2.2.1 ++ b).data.toList).1.length ≤ 5000 := Nat.le_trans (scan_len _) (by simpa [ByteArray.size_append] using hs)
 refine ⟨hs, rfl, rfl, fun sl hsl => ?_⟩
 have hp : ptrOk 5 sl = true := by
  rcases hsl with ⟨rfl, _⟩ | ⟨cap, rfl⟩ <;> rfl
 have key : ∀ c' : Cra, c' = begW c (c.2.2.1 ++ b).data.toList → tkX F h (scanL (c.2.2.1 ++ b).data.toList).1 ((scanL (c.2.2.1 ++ b).data.toList).1.length + 1) t (retQ Tryz.prog (fnOf Tryz.prog 23) (fun v _ => v = (two' cCra cHea).enc (takeW F c t b))) sl c' := by
  intro c' hc
  refine ⟨hsl, by decide, rfl, by rw [hp]; rfl, fun d => ?_⟩
  refine tk_loop F (tk_row F h _ t sl _) hL hsl hp _ _ [] rfl d (c', zeroHea) (fun i d => ?_)
  refine Eq.mpr (tk_end F h _ t i _ sl d _ _ _ (fun v => v = (two' cCra cHea).enc (takeW F c t b))) ?_
  rw [hc]
  rfl
 unfold begW at key
 by_cases ho : ((scanL (c.2.2.1 ++ b).data.toList).2.2 : Nat) > (0 : Int)
 ·rw [decide_eq_true ho]
  exact key _ (if_pos ho).symm
 ·rw [decide_eq_false ho]
  exact key _ (if_neg ho).symm
end
end Go.Proofs.YtbophanlmkbfeaaGreatDoor
namespace Go.Proofs.YtbophanlmkbfeaaGreatDoor
open Go.RowKit Go.Maps Go.WideMaps
theorem key_arr : ArrKey Tryz.prog 264 3 2 := ⟨Tryz.underlying264, by kernel_rfl, by kernel_rfl, by kernel_rfl⟩
theorem key_law : Keyed Tryz.prog 264 := Keyed.of_law key_arr.law
theorem el_zero (w : World) : (zeroValue 2).run Tryz.prog w = .ok (.int .i64 0) w := by kernel_rfl
theorem types_some : ∃ m, Tryz.prog.types.size = m + 1 := ⟨Tryz.prog.types.size - 1, by have h : 0 < Tryz.prog.types.size := of_decide_eq_true (by kernel_rfl); omega⟩
structure I64 (n : Int) : Prop where
 lo : -9223372036854775808 ≤ n
 hi : n ≤ 9223372036854775807
theorem I64.wf {n : Int} (h : I64 n) : (Lit.int .i64 n).wf = true := by
 have := h.lo; have := h.hi
 simp only [Lit.wf, IntKind.min, IntKind.max, IntKind.signed, IntKind.bits, Bool.and_eq_true, decide_eq_true_eq, if_true]
 omega
def kyl (n m : Int) : Lit := .string (keyBytes [.int .i64 n, .int .i64 m])
theorem key_at {n m : Int} (hn : I64 n) (hm : I64 m) : keyOf Tryz.prog 264 (.agg #[.int .i64 n, .int .i64 m]) = some (kyl n m) :=
 keyOf_pair key_arr Tryz.underlying3 types_some hn.wf hm.wf
theorem kyl_inj {n m n' m' : Int} (hn : I64 n) (hm : I64 m) (hn' : I64 n') (hm' : I64 m') (h : kyl n m = kyl n' m') : n = n' ∧ m = m' := by
 have a := key_at hn hm
 rw [h] at a
 have e := key_law.inj a (key_at hn' hm')
 simp at e
 exact e
theorem kyl_key {n m : Int} (hn : I64 n) (hm : I64 m) : WideAt.IsKeyLit (kyl n m) := key_law.key (key_at hn hm)
structure Mp (k c : Nat) (f : Int → Int → Int) (w : World) : Prop where
 own : ∃ D : DataW Unit, w.ownsMap Tryz.prog 264 (plainElem Tryz.prog 2) k c D ∧ ∀ n m, I64 n → I64 m → D.atKey (kyl n m) (.lit (.int .i64 0)) = .lit (.int .i64 (f n m))
 lies : k < w.heap.size
def putM (f : Int → Int → Int) (n m v : Int) : Int → Int → Int := fun a b => if a = n ∧ b = m then v else f a b
theorem Mp.same {k c : Nat} {f : Int → Int → Int} {w w' : World} (h : Mp k c f w) (e : w'.heap[k]? = w.heap[k]?) (hs : w.heap.size ≤ w'.heap.size) : Mp k c f w' := by
 obtain ⟨D, ⟨es, clock, hb, F, hn, hD⟩, at_⟩ := h.own
 exact ⟨⟨D, ⟨es, clock, e.trans hb, F, hn, hD⟩, at_⟩, Nat.lt_of_lt_of_le h.lies hs⟩
theorem Mp.mono {k c c' : Nat} {f : Int → Int → Int} {w : World} (h : Mp k c f w) (hc : c ≤ c') : Mp k c' f w := by
 obtain ⟨D, o, at_⟩ := h.own
 exact ⟨⟨D, o.mono hc, at_⟩, h.lies⟩
theorem Mp.eqv {k c : Nat} {f g : Int → Int → Int} {w : World} (h : Mp k c f w) (e : ∀ n m, f n m = g n m) : Mp k c g w := by
 obtain rfl : f = g := by funext n m; exact e n m
 exact h
theorem Mp.kept {k b c : Nat} {f : Int → Int → Int} {w w' : World} (h : Mp k c f w) (hb : Kept b w w') (hk : k ≠ b) : Mp k c f w' := h.same (hb.block k h.lies hk) hb.size
theorem Mp.below {k c : Nat} {f : Int → Int → Int} {w w' : World} (h : Mp k c f w) (hb : Below w.heap.size w w') : Mp k c f w' := h.same (hb.block k h.lies) hb.size
theorem Mp.alloc {k c : Nat} {f : Int → Int → Int} {w : World} (h : Mp k c f w) (o : Obj) : Mp k c f (w.alloc o) := h.below ((Below.refl _ _).alloc (Nat.le_refl _) o)
theorem Mp.drew {k c : Nat} {f : Int → Int → Int} {w : World} (h : Mp k c f w) : Mp k c f w.drew := ⟨h.own, h.lies⟩
theorem Mp.new {k c : Nat} {f : Int → Int → Int} {w : World} (h : Mp k c f w) (q o : Nat) (hp : k ≠ q) (u : Value) : Mp k c f (w.setCell ⟨q, o, none⟩ u) :=
 h.same (Below.heap_setCell _ _ _ _ hp) (by rw [World.size_setCell]; exact Nat.le_refl _)
theorem Mp.off {k k' c : Nat} {f : Int → Int → Int} {w w' : World} (h : Mp k' c f w) (o : Off k w w') (hk : k' ≠ k) : Mp k' c f w' := h.same (o.block k' hk) (Nat.le_of_eq o.size.symm)
set_option maxRecDepth 100000 in
theorem Mp.look {k c : Nat} {f : Int → Int → Int} {w : World} (h : Mp k c f w) {n m : Int} (hn : I64 n) (hm : I64 m) : (Instr.lookup 219 (.map (some k)) (.agg #[.int .i64 n, .int .i64 m]) false).run Tryz.prog w = .ok (.int .i64 (f n m)) w := by
 obtain ⟨D, o, at_⟩ := h.own
 obtain ⟨c, hr, hat, _⟩ := o.lookup_int key_law Tryz.underlying219 Tryz.underlying2 (el_zero w) (key_at hn hm)
 rw [at_ n m hn hm] at hat
 injection hat with hat
 injection hat with _ hat
 rw [hr, hat]
set_option maxRecDepth 100000 in
theorem Mp.store {k c : Nat} {f : Int → Int → Int} {w : World} (h : Mp k c f w) (hc : c < 1000) {n m v : Int} (hn : I64 n) (hm : I64 m) (hv : I64 v) :
    ∃ w', (Instr.mapUpdate 219 (.map (some k)) (.agg #[.int .i64 n, .int .i64 m]) (.int .i64 v)).run Tryz.prog w = .ok () w' ∧ Mp k (c + 1) (putM f n m v) w' ∧ Kept k w w' := by
 obtain ⟨D, o, at_⟩ := h.own
 have hmap : IsMap D := by obtain ⟨_, _, _, _, _, rfl⟩ := o; exact ⟨_, rfl⟩
 obtain ⟨w', hr, o', g⟩ := o.update key_law Tryz.underlying219 (by unfold maxLen; omega) (key_at hn hm) (plainElem_int Tryz.underlying2 hv.wf)
 refine ⟨w', hr, ⟨⟨_, o', fun n' m' hn' hm' => ?_⟩, Nat.lt_of_lt_of_le h.lies g.size⟩, ⟨g.os, g.tape, g.output, g.size, fun i hi hb => g.block i hi (fun e => hb (Option.some.inj e))⟩⟩
 unfold putM
 by_cases e : n' = n ∧ m' = m
 ·rw [if_pos e, e.1, e.2, atKey_put_same hmap (kyl_key hn hm)]
 ·rw [if_neg e, atKey_put_other (fun h => e (kyl_inj hn' hm' hn hm h)), at_ n' m' hn' hm']
theorem Mp.made (w : World) (n : Nat) (hn : n = w.heap.size) : Mp n 0 (fun _ _ => 0) (w.alloc (.map #[] 0)) := by
 subst hn
 exact ⟨⟨_, World.ownsMap_made w _ _ _, fun _ _ _ _ => rfl⟩, by simp⟩
theorem mp_look {ops : Array Oper} {rest : List Oper} {op : Oper} {a : Act} {w : World} {Q : Exit → Act → World → Prop} {x y : Operand} {k c : Nat} {f : Int → Int → Int} {n m : Int} (hgd : op.guard = none) (ho : op.op = .lookup 219 x y false)
    (hx : a.eval x = .map (some k)) (hy : a.eval y = .agg #[.int .i64 n, .int .i64 m]) (M : Mp k c f w) (hn : I64 n) (hm : I64 m) (h : wpList Tryz.prog ops Q rest (a.put op.dst (.int .i64 (f n m))) w) : wpList Tryz.prog ops Q (op :: rest) a w := by
 refine wpList_plain hgd fun K' hK' => ?_
 unfold Oper.wp
 simp [execOp, ho, hx, hy, M.look hn hm, Result.andThen]
 exact hK' _ _ h
theorem mp_yield {ops : Array Oper} {S : World → Prop} {op : Oper} {a : Act} {x y : Operand} {k c : Nat} {f : Int → Int → Int} {n m : Int} (hw : Region.wanted op (yielded ops a.tmps) = true) (ho : op.op = .lookup 219 x y false)
    (hx : a.eval x = .map (some k)) (hy : a.eval y = .agg #[.int .i64 n, .int .i64 m]) (hS : ∀ w, S w → Mp k c f w) (hn : I64 n) (hm : I64 m) : YieldsIf Tryz.prog ops S op (.int .i64 (f n m)) a := by
 refine Or.inl ⟨hw, fun w h => ?_⟩
 simp [execOp, ho, hx, hy, (hS w h).look hn hm, Result.andThen]
theorem mp_put {ops : Array Oper} {op : Oper} {a : Act} {w : World} {K : Act → World → Prop} {Q : Exit → Act → World → Prop} {x y z : Operand} {k c : Nat} {f : Int → Int → Int} {n m v : Int} (hw : Region.wanted op (yielded ops a.tmps) = true)
    (ho : op.op = .mapUpdate 219 x y z) (hx : a.eval x = .map (some k)) (hy : a.eval y = .agg #[.int .i64 n, .int .i64 m]) (hz : a.eval z = .int .i64 v) (M : Mp k c f w) (hc : c < 1000) (hn : I64 n) (hm : I64 m) (hv : I64 v)
    (h : ∀ w', Mp k (c + 1) (putM f n m v) w' → Kept k w w' → K (a.put op.dst undef) w') : if Region.wanted op (yielded ops a.tmps) = true then Oper.wp Tryz.prog op a w K Q else K (a.put op.dst undef) w := by
 rw [if_pos hw]
 obtain ⟨w', hr, M', k'⟩ := M.store hc hn hm hv
 unfold Oper.wp
 simp [execOp, ho, hx, hy, hz, hr, Result.andThen]
 exact h w' M' k'
end Go.Proofs.YtbophanlmkbfeaaGreatDoor
namespace Go.Proofs.YtbophanlmkbfeaaGreatDoor
open Go.RowKit Go.Maps Go.WideMaps
structure KeptL (L : List Nat) (w w' : World) : Prop where
 os : w'.os = w.os
 tape : w'.tape = w.tape
 output : w'.output = w.output
 size : w.heap.size ≤ w'.heap.size
 block : ∀ k, k < w.heap.size → k ∉ L → w'.heap[k]? = w.heap[k]?
theorem KeptL.refl (L : List Nat) (w : World) : KeptL L w w := ⟨rfl, rfl, rfl, Nat.le_refl _, fun _ _ _ => rfl⟩
theorem KeptL.trans {L : List Nat} {x y z : World} (h : KeptL L x y) (k : KeptL L y z) : KeptL L x z :=
 ⟨k.os.trans h.os, k.tape.trans h.tape, k.output.trans h.output, Nat.le_trans h.size k.size, fun i hi hb => (k.block i (Nat.lt_of_lt_of_le hi h.size) hb).trans (h.block i hi hb)⟩
theorem KeptL.of {L : List Nat} {b : Nat} {w w' : World} (h : Kept b w w') (hb : b ∈ L) : KeptL L w w' := ⟨h.os, h.tape, h.output, h.size, fun k hk hn => h.block k hk (fun e => hn (e ▸ hb))⟩
theorem KeptL.on {L : List Nat} {b : Nat} {x w w' : World} (h : KeptL L x w) (k : Kept b w w') (hb : b ∈ L) : KeptL L x w' := h.trans (KeptL.of k hb)
theorem KeptL.low {L : List Nat} {x w w' : World} (h : KeptL L x w) (k : Below w.heap.size w w') : KeptL L x w' := h.trans ⟨k.os, k.tape, k.output, k.size, fun i hi _ => k.block i hi⟩
theorem KeptL.al {L : List Nat} {x w : World} (h : KeptL L x w) (o : Obj) : KeptL L x (w.alloc o) := h.low ((Below.refl _ _).alloc (Nat.le_refl _) o)
theorem KeptL.drew {L : List Nat} {x w : World} (h : KeptL L x w) : KeptL L x w.drew := ⟨h.os, h.tape, h.output, h.size, h.block⟩
theorem KeptL.new {L : List Nat} {x w : World} (h : KeptL L x w) (q o : Nat) (hp : x.heap.size ≤ q) (u : Value) : KeptL L x (w.setCell ⟨q, o, none⟩ u) :=
 ⟨h.os, h.tape, h.output, by rw [World.size_setCell]; exact h.size, fun k hk hb => (Below.heap_setCell _ _ _ _ (by show k ≠ q; omega)).trans (h.block k hk hb)⟩
theorem Kept.off_list {b : Nat} {L : List Nat} {x w w' : World} (K : Kept b x w) (h : KeptL L w w') (hL : ∀ k ∈ L, k = b ∨ x.heap.size ≤ k) : Kept b x w' :=
 ⟨h.os.trans K.os, h.tape.trans K.tape, h.output.trans K.output, Nat.le_trans K.size h.size, fun j hj hb => (h.block j (Nat.lt_of_lt_of_le hj K.size) (fun m => by rcases hL j m with e | e <;> omega)).trans (K.block j hj hb)⟩
theorem Arr.keptL {k : Nat} {L : List Nat} {l : List Value} {w w' : World} (h : Arr k l w) (hb : KeptL L w w') (hk : k ∉ L) : Arr k l w' := h.same (hb.block k h.lies hk) hb.size
theorem Mp.keptL {k c : Nat} {L : List Nat} {f : Int → Int → Int} {w w' : World} (h : Mp k c f w) (hb : KeptL L w w') (hk : k ∉ L) : Mp k c f w' := h.same (hb.block k h.lies hk) hb.size
def NearM (k : Nat) (f : Int → Int → Int) (n m : Int) (w : World) : Prop := ∃ c g, Mp k c g w ∧ ∀ a b, ¬ (a = n ∧ b = m) → g a b = f a b
theorem NearM.same {k c : Nat} {f : Int → Int → Int} {n m : Int} {w : World} (M : Mp k c f w) : NearM k f n m w := ⟨c, f, M, fun _ _ _ => rfl⟩
theorem NearM.upd {k c : Nat} {f : Int → Int → Int} {n m v : Int} {w : World} (M : Mp k c (putM f n m v) w) : NearM k f n m w := ⟨c, _, M, fun _ _ h => if_neg h⟩
theorem mp_yield_near {ops : Array Oper} {S : World → Prop} {op : Oper} {a : Act} {x y : Operand} {k : Nat} {f : Int → Int → Int} {n m n0 m0 : Int} (hw : Region.wanted op (yielded ops a.tmps) = true) (ho : op.op = .lookup 219 x y false)
    (hx : a.eval x = .map (some k)) (hy : a.eval y = .agg #[.int .i64 n, .int .i64 m]) (hS : ∀ w, S w → NearM k f n0 m0 w) (hn : I64 n) (hm : I64 m) (hne : ¬ (n = n0 ∧ m = m0)) : YieldsIf Tryz.prog ops S op (.int .i64 (f n m)) a := by
 refine Or.inl ⟨hw, fun w h => ?_⟩
 obtain ⟨c, g, M, e⟩ := hS w h
 simp [execOp, ho, hx, hy, M.look hn hm, Result.andThen, e n m hne]
end Go.Proofs.YtbophanlmkbfeaaGreatDoor
namespace Go.Proofs.YtbophanlmkbfeaaGreatDoor
open Go.RowKit Go.Maps Go.WideMaps
def undone (L : Array Bool) : Nat := (L.toList.filter (fun b => !b)).length
theorem undone_set {L : Array Bool} {i : Nat} (h : L.getD i true = false) : undone (L.setIfInBounds i true) + 1 = undone L := by
 obtain ⟨l⟩ := L
 have h' : l[i]?.getD true = false := by simpa using h
 unfold undone
 simp only [List.setIfInBounds_toArray]
 clear h
 induction l generalizing i with
 | nil => simp at h'
 | cons b r ih =>
  cases i with
  | zero => simp at h'; simp [h']
  | succ i =>
   have := ih (i := i) (by simpa using h')
   cases b <;> simp [List.set_cons_succ] <;> omega
theorem orders_ind {P : Program} {md : Region.Mode} {l : List Oper} {Q : Exit → Act → World → Prop} (Inv : Array Bool → Act → World → Prop)
    (step : ∀ listed a w i o, l[i]? = some o → i ∈ Region.ready md l.toArray listed → Inv listed a w → ∀ K' : Act → World → Prop, Shut (∀ a w, Inv (listed.setIfInBounds i true) a w → K' a w) → if Region.wanted o (yielded l.toArray a.tmps) = true then Oper.wp P o a w K' Q else K' (a.put o.dst undef) w)
    (fin : ∀ listed a w, Region.ready md l.toArray listed = [] → Inv listed a w → Q .normal a w) :
    ∀ (fuel : Nat) (listed : Array Bool) (a : Act) (w : World), undone listed ≤ fuel → Inv listed a w → wpAnyH P md l.toArray Q (fun _ => True) fuel listed a w := by
 intro fuel
 induction fuel with
 | zero =>
  intro listed a w hu hI
  have hr : Region.ready md l.toArray listed = [] := by
   apply List.eq_nil_iff_forall_not_mem.2
   intro i hi
   have := undone_set (mem_ready.1 hi).1
   omega
  exact ⟨hr, fin listed a w hr hI⟩
 | succ fuel ih =>
  intro listed a w hu hI
  refine ⟨fun hr => fin listed a w hr hI, fun i hi => ?_⟩
  obtain ⟨hun, o, ho, _⟩ := mem_ready.1 hi
  have ho' : l[i]? = some o := by simpa using ho
  have hs := undone_set hun
  have h := step listed a w i o ho' hi hI (fun a' w' => True ∧ wpAnyH P md l.toArray Q (fun _ => True) fuel (listed.setIfInBounds i true) a' w') (fun a' w' k => ⟨trivial, ih _ a' w' (by omega) k⟩)
  unfold wpOp
  rw [ho]
  show if _ then _ else _
  split
  ·rename_i hw
   rw [if_pos hw] at h
   exact Or.inl h
  ·rename_i hw
   rw [if_neg hw] at h
   exact h
theorem no_ready {md : Region.Mode} {l : List Oper} {L : Array Bool} (hr : Region.ready md l.toArray L = []) {i : Nat} {o : Oper} (hi : l[i]? = some o) (hu : L.getD i true = false) (h : o.after.toList.all (fun e => !Region.binds md e || L.getD e.on false) = true) : False := by
 have m : i ∈ Region.ready md l.toArray L := mem_ready.2 ⟨hu, o, by simpa using hi, fun e he hb => by
  have := (List.all_eq_true.1 h) e (by simpa using he)
  rw [hb] at this
  simpa using this⟩
 rw [hr] at m
 exact absurd m List.not_mem_nil
theorem mp_ins {ops : Array Oper} {op : Oper} {a : Act} {w : World} {K : Act → World → Prop} {Q : Exit → Act → World → Prop} {x y z : Operand} {k c : Nat} {f : Int → Int → Int} {n m v : Int} (hw : Region.wanted op (yielded ops a.tmps) = true)
    (ho : op.op = .insert 219 x y z) (hx : a.eval x = .map (some k)) (hy : a.eval y = .agg #[.int .i64 n, .int .i64 m]) (hz : a.eval z = .int .i64 v) (M : Mp k c f w) (hc : c < 1000) (hn : I64 n) (hm : I64 m) (hv : I64 v)
    (h : ∀ w', Mp k (c + 1) (putM f n m v) w' → Kept k w w' → K (a.put op.dst undef) w') : if Region.wanted op (yielded ops a.tmps) = true then Oper.wp Tryz.prog op a w K Q else K (a.put op.dst undef) w := by
 rw [if_pos hw]
 obtain ⟨w', hr, M', k'⟩ := M.store hc hn hm hv
 unfold Oper.wp
 simp [execOp, ho, hx, hy, hz, hr, Result.andThen]
 exact h w' M' k'
def mf2 (p : Bool) (x : Int) (q : Bool) (y : Int) : Int → Int → Int := fun n m => if q = true ∧ n = 1 ∧ m = 1 then y else if p = true ∧ n = 0 ∧ m = 0 then x else 0
theorem mf2_zero (x y : Int) (n m : Int) : (0 : Int) = mf2 false x false y n m := by unfold mf2; simp
theorem mf2_p (x : Int) (q : Bool) (y : Int) (n m : Int) : putM (mf2 false x q y) 0 0 x n m = mf2 true x q y n m := by
 unfold putM mf2
 by_cases h : n = 0 ∧ m = 0
 ·obtain ⟨rfl, rfl⟩ := h; simp
 ·rw [if_neg h]; simp [h]
theorem mf2_q (p : Bool) (x y : Int) (n m : Int) : putM (mf2 p x false y) 1 1 y n m = mf2 p x true y n m := by
 unfold putM mf2
 by_cases h : n = 1 ∧ m = 1
 ·obtain ⟨rfl, rfl⟩ := h; simp
 ·rw [if_neg h]; simp [h]
structure MI (w0 : World) (c s : Int) (a0 a2 a5 a6 b7 b9 b12 b13 q14 q16 q17 e18 d19 z20 : Bool) (x7 x10 x14 x15 x19 x20 x22 x23 : Value) (kA kB kC kD : Nat) (w : World) : Prop where
 bel : Below w0.heap.size w0 w
 A : a0 = true → x10 = .map (some kA) ∧ w0.heap.size ≤ kA ∧ Mp kA (a2.toNat + a5.toNat) (mf2 a2 1099511627776 a5 s) w
 B : b7 = true → x15 = .map (some kB) ∧ w0.heap.size ≤ kB ∧ Mp kB (b9.toNat + b12.toNat) (mf2 b9 0 b12 c) w
 C : q14 = true → x20 = .map (some kC) ∧ w0.heap.size ≤ kC ∧ Mp kC q16.toNat (mf2 false 0 q16 1099511627776) w
 A6 : a6 = true → x14 = .map (some kA) ∧ a0 = true ∧ a2 = true ∧ a5 = true
 B13 : b13 = true → x19 = .map (some kB) ∧ b7 = true ∧ b9 = true ∧ b12 = true
 C17 : q17 = true → x22 = .map (some kC) ∧ q14 = true ∧ q16 = true
 E : e18 = true → x23 = .agg #[.map (some kA), .map (some kB), .map (some kC)] ∧ a6 = true ∧ b13 = true ∧ q17 = true
 D : d19 = true → x7 = .pointer (some ⟨kD, 0, none⟩) ∧ w0.heap.size ≤ kD ∧ Arr kD (bif z20 then [.map (some kA), .map (some kB), .map (some kC)] else [.map none, .map none, .map none]) w
 va : a2 = true ∨ a5 = true → a0 = true
 vb : b9 = true ∨ b12 = true → b7 = true
 vc : q16 = true → q14 = true
 Z : z20 = true → e18 = true ∧ d19 = true
 AB : a0 = true → b7 = true → kA ≠ kB
 AC : a0 = true → q14 = true → kA ≠ kC
 BC : b7 = true → q14 = true → kB ≠ kC
 AD : a0 = true → d19 = true → kA ≠ kD
 BD : b7 = true → d19 = true → kB ≠ kD
 CD : q14 = true → d19 = true → kC ≠ kD
end Go.Proofs.YtbophanlmkbfeaaGreatDoor
namespace Go.Proofs.YtbophanlmkbfeaaGreatDoor
open Go.RowKit Go.Maps Go.WideMaps
theorem met_law : Keyed Tryz.prog 252 := Keyed.of_law (deep_law (m := 2) (by omega) (by kernel_rfl) (by kernel_rfl) (by kernel_rfl))
theorem met_zero (w : World) : (zeroValue 3).run Tryz.prog w = .ok (.int .i64 0) w := by kernel_rfl
theorem met_types : ∃ m, Tryz.prog.types.size = m + 1 := ⟨Tryz.prog.types.size - 1, by have h : 0 < Tryz.prog.types.size := of_decide_eq_true (by kernel_rfl); omega⟩
theorem met_at {n m : Int} (hn : I64 n) (hm : I64 m) : keyOf Tryz.prog 252 (.agg #[.int .i64 n, .int .i64 m]) = some (kyl n m) := by
 have hkt : Tryz.prog.keyType 252 = true := by kernel_rfl
 have hsz : Tryz.prog.cellsOf 252 = 2 := by kernel_rfl
 have h1 : Tryz.prog.cellsOf 3 = 1 := by kernel_rfl
 obtain ⟨k, hk⟩ := met_types
 unfold keyOf kyl
 simp only [Tryz.underlying252]
 rw [if_pos (by simp [hkt, Value.formed, Tryz.underlying252, hsz]), hk]
 unfold Program.keyLits
 simp only [Tryz.underlying252, Value.cells]
 simp [h1, hsz, Program.keyLits, Tryz.underlying3, hn.wf, hm.wf]
structure Mm (k c : Nat) (f : Int → Int → Int) (w : World) : Prop where
 own : ∃ D : DataW Unit, w.ownsMap Tryz.prog 252 (plainElem Tryz.prog 3) k c D ∧ ∀ n m, I64 n → I64 m → D.atKey (kyl n m) (.lit (.int .i64 0)) = .lit (.int .i64 (f n m))
 lies : k < w.heap.size
theorem met_inj {n m n' m' : Int} (hn : I64 n) (hm : I64 m) (hn' : I64 n') (hm' : I64 m') (h : kyl n m = kyl n' m') : n = n' ∧ m = m' := by
 have a := met_at hn hm
 rw [h] at a
 have e := met_law.inj a (met_at hn' hm')
 simp at e
 exact e
theorem met_key {n m : Int} (hn : I64 n) (hm : I64 m) : WideAt.IsKeyLit (kyl n m) := met_law.key (met_at hn hm)
theorem Mm.same {k c : Nat} {f : Int → Int → Int} {w w' : World} (h : Mm k c f w) (e : w'.heap[k]? = w.heap[k]?) (hs : w.heap.size ≤ w'.heap.size) : Mm k c f w' := by
 obtain ⟨D, ⟨es, clock, hb, F, hn, hD⟩, at_⟩ := h.own
 exact ⟨⟨D, ⟨es, clock, e.trans hb, F, hn, hD⟩, at_⟩, Nat.lt_of_lt_of_le h.lies hs⟩
theorem Mm.mono {k c c' : Nat} {f : Int → Int → Int} {w : World} (h : Mm k c f w) (hc : c ≤ c') : Mm k c' f w := by
 obtain ⟨D, o, at_⟩ := h.own
 exact ⟨⟨D, o.mono hc, at_⟩, h.lies⟩
theorem Mm.eqv {k c : Nat} {f g : Int → Int → Int} {w : World} (h : Mm k c f w) (e : ∀ n m, f n m = g n m) : Mm k c g w := by
 obtain rfl : f = g := by funext n m; exact e n m
 exact h
theorem Mm.below {k c : Nat} {f : Int → Int → Int} {w w' : World} (h : Mm k c f w) (hb : Below w.heap.size w w') : Mm k c f w' := h.same (hb.block k h.lies) hb.size
set_option maxRecDepth 100000 in
theorem Mm.look {k c : Nat} {f : Int → Int → Int} {w : World} (h : Mm k c f w) {n m : Int} (hn : I64 n) (hm : I64 m) : (Instr.lookup 249 (.map (some k)) (.agg #[.int .i64 n, .int .i64 m]) false).run Tryz.prog w = .ok (.int .i64 (f n m)) w := by
 obtain ⟨D, o, at_⟩ := h.own
 obtain ⟨c, hr, hat, _⟩ := o.lookup_int met_law Tryz.underlying249 Tryz.underlying3 (met_zero w) (met_at hn hm)
 rw [at_ n m hn hm] at hat
 injection hat with hat
 injection hat with _ hat
 rw [hr, hat]
theorem Mm.store {k c : Nat} {f : Int → Int → Int} {w : World} (h : Mm k c f w) (hc : c < 1000) {n m v : Int} (hn : I64 n) (hm : I64 m) (hv : I64 v) :
    ∃ w', (Instr.mapUpdate 249 (.map (some k)) (.agg #[.int .i64 n, .int .i64 m]) (.int .i64 v)).run Tryz.prog w = .ok () w' ∧ Mm k (c + 1) (putM f n m v) w' ∧ Kept k w w' := by
 obtain ⟨D, o, at_⟩ := h.own
 have hmap : IsMap D := by obtain ⟨_, _, _, _, _, rfl⟩ := o; exact ⟨_, rfl⟩
 obtain ⟨w', hr, o', g⟩ := o.update met_law Tryz.underlying249 (by unfold maxLen; omega) (met_at hn hm) (plainElem_int Tryz.underlying3 hv.wf)
 refine ⟨w', hr, ⟨⟨_, o', fun n' m' hn' hm' => ?_⟩, Nat.lt_of_lt_of_le h.lies g.size⟩, ⟨g.os, g.tape, g.output, g.size, fun i hi hb => g.block i hi (fun e => hb (Option.some.inj e))⟩⟩
 unfold putM
 by_cases e : n' = n ∧ m' = m
 ·rw [if_pos e, e.1, e.2, atKey_put_same hmap (met_key hn hm)]
 ·rw [if_neg e, atKey_put_other (fun h => e (met_inj hn' hm' hn hm h)), at_ n' m' hn' hm']
theorem Mm.made (w : World) (n : Nat) (hn : n = w.heap.size) : Mm n 0 (fun _ _ => 0) (w.alloc (.map #[] 0)) := by
 subst hn
 exact ⟨⟨_, World.ownsMap_made w _ _ _, fun _ _ _ _ => rfl⟩, by simp⟩
theorem mm_ins {ops : Array Oper} {op : Oper} {a : Act} {w : World} {K : Act → World → Prop} {Q : Exit → Act → World → Prop} {x y z : Operand} {k c : Nat} {f : Int → Int → Int} {n m v : Int} (hw : Region.wanted op (yielded ops a.tmps) = true)
    (ho : op.op = .insert 249 x y z) (hx : a.eval x = .map (some k)) (hy : a.eval y = .agg #[.int .i64 n, .int .i64 m]) (hz : a.eval z = .int .i64 v) (M : Mm k c f w) (hc : c < 1000) (hn : I64 n) (hm : I64 m) (hv : I64 v)
    (h : ∀ w', Mm k (c + 1) (putM f n m v) w' → Kept k w w' → K (a.put op.dst undef) w') : if Region.wanted op (yielded ops a.tmps) = true then Oper.wp Tryz.prog op a w K Q else K (a.put op.dst undef) w := by
 rw [if_pos hw]
 obtain ⟨w', hr, M', k'⟩ := M.store hc hn hm hv
 unfold Oper.wp
 simp [execOp, ho, hx, hy, hz, hr, Result.andThen]
 exact h w' M' k'
end Go.Proofs.YtbophanlmkbfeaaGreatDoor
