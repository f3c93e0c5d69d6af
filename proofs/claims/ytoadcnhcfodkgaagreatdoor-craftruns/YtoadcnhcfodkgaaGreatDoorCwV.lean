/-
  What a craft takes of the bytes that came, by the symbolic run, for the seat YtoadcnhcfodkgaaGreatDoor.
-/
import Derived.Test.YtoadcnhcfodkgaaGreatDoorCwU
import Derived.Test.YtoadcnhcfodkgaaGreatDoorSxQ
namespace Go.Proofs.YtoadcnhcfodkgaaGreatDoor
open Go.RowKit

abbrev dHea : Dl Hea := dcat 5 (dT 5) (dcat 5 (dT 5) (dcat 5 (dT 5) (lone' cI)))
def zeroHea : Hea := ((0, 0, 0, 0, 0, ()), (0, 0, 0, 0, 0, ()), (0, 0, 0, 0, 0, ()), 0)
def zeroCra : Cra := (false, 0, noBytes, (0, 0, 0, 0, 0, 0, ()), false, (0, 0, 0, 0, 0, 0, 0, ()), (false, (0, 0, 0, 0, 0, 0, 0, ())), zeroG, (0, 0, 0, ()))
def leftC (c : Cra) (l : ByteArray) : Cra := (c.1, c.2.1, l, c.2.2.2)
/-- A frame is heard. -/
def hearW (F : Fs) (t : Int) (s : Cra × Hea) (f : Fra) : Cra × Hea :=
  if f.1 = 1 then senW F s.1 s.2 f t else if f.1 = 2 then senW F s.1 s.2 f t else if f.1 = 3 then senW F s.1 s.2 f t else if f.1 = 16 then ordC s.1 s.2 (F.oread f) else (rejC s.1, s.2)
def fraOf (f : UInt8 × List UInt8) : Fra := ((f.1.toNat : Nat), ⟨f.2.toArray⟩)
def begW (c : Cra) (L : List UInt8) : Cra := if ((scanL L).2.2 : Nat) > (0 : Int) then rejC (leftC c (restOf L)) else leftC c (restOf L)
def takeW (F : Fs) (c : Cra) (t : Int) (b : ByteArray) : Cra × Hea :=
  ((scanL (c.2.2.1 ++ b).data.toList).1.map fraOf).foldl (hearW F t) (begW c (c.2.2.1 ++ b).data.toList, zeroHea)
def tks : List Nat := [1, 3, 6, 7, 11, 32, 33, 31]
def tkF (t n i : Int) (sl : Value) (d : Nat → Value) : List Value := frm [(1, .int .i64 t), (3, ptr 0), (6, ptr 1), (7, ptr 2), (11, ptr 4), (32, .int .i64 n), (33, .int .i64 i), (31, sl)] d 67
def tkE (t n i : Int) (sl : Value) (d : Nat → Value) : List Value := vset ((tkF t n i sl d).set 34 (.bool (decide (i < n)))) (.tmp 34) false
def tkM (c : Cra) (h : Hea) (l : List (UInt8 × List UInt8)) : Xm := [dCra.enc c, dCra.enc zeroCra, dHea.enc zeroHea, cellsOf l, dHea.enc h]
def tkT (F : Fs) (h : FsOk F) : List (Ct Tryz.prog) := [ctrejected, cthearSensor F h, cthearGround F h]
def tkO (F : Fs) (h : FsOk F) (l : List (UInt8 × List UInt8)) : Ov := fun id => match id with
  | 1 => some fun _ _ => r1
  | 6 => some fun _ _ => r6 tks l
  | 8 => some fun _ _ => r8 l
  | 17 => some (cutBy Tryz.prog (tkT F h) (fun _ => []) 17 tks 67 5)
  | _ => none
def tkB (P : Program) : Code := cpart [true, true, true, true, true, false, true] (bodyOf P 10)
def tkL (P : Program) : Code := cpart [false, false] (tkB P)
def tkZ (P : Program) : Code := cpart [true, true, true, true, true, true] (bodyOf P 10)
section
variable (F : Fs) (h : FsOk F)
/-- Behind a frame. -/
def nx (t nn i : Int) (sl : Value) (l : List (UInt8 × List UInt8)) (Q : VQ) (s : Cra × Hea) : Prop :=
  67 = 67 ∧ (ptrOk 5 sl && true) = true ∧ ∀ d, Q .normal (tkF t nn (IntKind.i64.wrap (i + 1)) sl d) (tkM s.1 s.2 l)
set_option maxRecDepth 100000 in
theorem tk_round (n : Nat) (t nn i : Int) (sl : Value) (d : Nat → Value) (l : List (UInt8 × List UInt8)) (c : Cra) (x : Hea) (Q : VQ) :
    swpO Tryz.prog (tkT F h) (fun _ => []) n (tkO F h l) (tkL Tryz.prog) Q (tkF t nn i sl d) (tkM c x l) =
      vif (decide (i < nn)) ((0 ≤ i ∧ i.toNat < l.length) ∧ SlOk sl l ∧ some (cellsOf l) = some (cellsOf l) ∧ 5 = 5 ∧ 36 < 67 ∧
        vif (decide ((frL l i).1 = 1)) (nx t nn i sl l Q (senW F c x (frL l i) t)) (vif (decide ((frL l i).1 = 2)) (nx t nn i sl l Q (senW F c x (frL l i) t)) (vif (decide ((frL l i).1 = 3)) (nx t nn i sl l Q (senW F c x (frL l i) t))
          (vif (decide ((frL l i).1 = 16)) (nx t nn i sl l Q (ordC c x (F.oread (frL l i)))) (nx t nn i sl l Q (rejC c, x))))))
      (Q (.exit 0) (tkE t nn i sl d) (tkM c x l)) := by kernel_rfl
theorem hear_vif (t nn i : Int) (sl : Value) (l : List (UInt8 × List UInt8)) (c : Cra) (x : Hea) (Q : VQ) :
    vif (decide ((frL l i).1 = 1)) (nx t nn i sl l Q (senW F c x (frL l i) t)) (vif (decide ((frL l i).1 = 2)) (nx t nn i sl l Q (senW F c x (frL l i) t)) (vif (decide ((frL l i).1 = 3)) (nx t nn i sl l Q (senW F c x (frL l i) t))
          (vif (decide ((frL l i).1 = 16)) (nx t nn i sl l Q (ordC c x (F.oread (frL l i)))) (nx t nn i sl l Q (rejC c, x))))) = nx t nn i sl l Q (hearW F t (c, x) (frL l i)) := by
  generalize hE : nx t nn i sl l Q = E
  generalize frL l i = f
  unfold hearW
  dsimp only
  generalize senW F c x f t = A
  generalize ordC c x (F.oread f) = B
  generalize (rejC c, x) = C
  by_cases h1 : f.1 = 1
  · rw [decide_eq_true h1, if_pos h1]; rfl
  rw [decide_eq_false h1, if_neg h1]
  by_cases h2 : f.1 = 2
  · rw [decide_eq_true h2, if_pos h2]; rfl
  rw [decide_eq_false h2, if_neg h2]
  by_cases h3 : f.1 = 3
  · rw [decide_eq_true h3, if_pos h3]; rfl
  rw [decide_eq_false h3, if_neg h3]
  by_cases h4 : f.1 = 16
  · rw [decide_eq_true h4, if_pos h4]; rfl
  · rw [decide_eq_false h4, if_neg h4]; rfl
theorem frL_at (pre rest : List (UInt8 × List UInt8)) (f : UInt8 × List UInt8) : frL (pre ++ f :: rest) (pre.length : Nat) = fraOf f := by
  unfold frL fraOf
  rw [Int.toNat_natCast, List.getElem?_append_right (Nat.le_refl _), Nat.sub_self]
  rfl
/-- A round, as a row. -/
def TkR (F : Fs) (t : Int) (sl : Value) (l : List (UInt8 × List UInt8)) (G : VQ → List Value → Xm → Prop) : Prop := ∀ (nn i : Int) (d : Nat → Value) (c : Cra) (x : Hea) (Q : VQ), G Q (tkF t nn i sl d) (tkM c x l) =
      vif (decide (i < nn)) ((0 ≤ i ∧ i.toNat < l.length) ∧ SlOk sl l ∧ some (cellsOf l) = some (cellsOf l) ∧ 5 = 5 ∧ 36 < 67 ∧ nx t nn i sl l Q (hearW F t (c, x) (frL l i)))
      (Q (.exit 0) (tkE t nn i sl d) (tkM c x l))
theorem tk_loop {t : Int} {sl : Value} {l : List (UInt8 × List UInt8)} {G : VQ → List Value → Xm → Prop} (hG : TkR F t sl l G) (hl : l.length ≤ 5000) (hs : SlOk sl l) (hp : ptrOk 5 sl = true) (Q : VQ) (rest : List (UInt8 × List UInt8)) : ∀ (pre : List (UInt8 × List UInt8)), l = pre ++ rest → ∀ (d : Nat → Value) (s : Cra × Hea),
    (∀ i d, Q (.exit 0) (tkE t l.length i sl d) (tkM ((rest.map fraOf).foldl (hearW F t) s).1 ((rest.map fraOf).foldl (hearW F t) s).2 l)) →
    loopN (rest.length + 1) G Q (tkF t l.length pre.length sl d) (tkM s.1 s.2 l) := by
  induction rest with
  | nil =>
    intro pre e d s hQ
    have e1 : l.length = pre.length := by rw [e]; simp
    rw [List.length_nil, loopN, hG, decide_eq_false (by omega)]
    exact hQ _ d
  | cons f rest ih =>
    intro pre e d s hQ
    have e1 : l.length = pre.length + (rest.length + 1) := by rw [e]; simp
    rw [List.length_cons, loopN, hG, decide_eq_true (by omega)]
    refine ⟨⟨by omega, by rw [Int.toNat_natCast]; omega⟩, hs, rfl, rfl, by decide, rfl, by rw [hp]; rfl, fun d => ?_⟩
    have hw : IntKind.i64.wrap ((pre.length : Int) + 1) = ((pre ++ [f]).length : Nat) := by
      rw [IntKind.wrap_i64, List.length_append, List.length_singleton]
      omega
    have hf : frL l (pre.length : Nat) = fraOf f := by rw [e]; exact frL_at pre rest f
    rw [hw, hf]
    exact ih (pre ++ [f]) (by rw [e]; simp) d (hearW F t s (fraOf f)) hQ
theorem tk_row (n : Nat) (t : Int) (sl : Value) (l : List (UInt8 × List UInt8)) : TkR F t sl l (swpO Tryz.prog (tkT F h) (fun _ => []) n (tkO F h l) (tkL Tryz.prog)) := by
  intro nn i d c x Q
  rw [tk_round, hear_vif]
/-- Behind the loop. -/
def tkQ (F : Fs) (h : FsOk F) (l : List (UInt8 × List UInt8)) (n : Nat) (Q : VQ) : VQ := fun e vt m => match e with
  | .normal => swpO Tryz.prog (tkT F h) (fun _ => []) n (tkO F h l) (tkZ Tryz.prog) Q vt m
  | e => Q e vt m
def tkX (F : Fs) (h : FsOk F) (l : List (UInt8 × List UInt8)) (n : Nat) (t : Int) (Q : VQ) (sl : Value) (c : Cra) : Prop :=
  SlOk sl l ∧ 33 < 67 ∧ 67 = 67 ∧ (ptrOk 5 sl && true) = true ∧ ∀ d, swpO Tryz.prog (tkT F h) (fun _ => []) n (tkO F h l) (tkB Tryz.prog) (tkQ F h l n Q) (tkF t l.length 0 sl d) (tkM c zeroHea l)
set_option maxRecDepth 100000 in
theorem tk_start (n : Nat) (t : Int) (c : Cra) (b : ByteArray) (Q : VQ) :
    swpO Tryz.prog (tkT F h) (fun _ => []) n (tkO F h (scanL (c.2.2.1 ++ b).data.toList).1) (bodyOf Tryz.prog 10) Q ((then' cCra (then' cI (lone' cS))).enc (c, t, b) ++ List.replicate ((fnOf Tryz.prog 10).ntmps - ((then' cCra (then' cI (lone' cS))).enc (c, t, b)).length) undef) [] =
      (c.2.2.1.size + b.size ≤ 5000 ∧ 3 = 3 ∧ 67 = 67 ∧ ∀ sl, SlOk sl (scanL (c.2.2.1 ++ b).data.toList).1 → vif (decide (((scanL (c.2.2.1 ++ b).data.toList).2.2 : Nat) > (0 : Int)))
        (tkX F h (scanL (c.2.2.1 ++ b).data.toList).1 n t Q sl (rejC (leftC c (restOf (c.2.2.1 ++ b).data.toList)))) (tkX F h (scanL (c.2.2.1 ++ b).data.toList).1 n t Q sl (leftC c (restOf (c.2.2.1 ++ b).data.toList)))) := by kernel_rfl
set_option maxRecDepth 100000 in
theorem tk_end (n : Nat) (t i nn : Int) (sl : Value) (d : Nat → Value) (l : List (UInt8 × List UInt8)) (c : Cra) (x : Hea) (Post : Value → Prop) :
    swpO Tryz.prog (tkT F h) (fun _ => []) n (tkO F h l) (tkZ Tryz.prog) (retQ Tryz.prog (fnOf Tryz.prog 10) (fun v _ => Post v)) (tkE t nn i sl d) (tkM c x l) = Post ((two' cCra cHea).enc (c, x)) := by kernel_rfl
set_option maxRecDepth 100000 in
theorem tk_ov (l : List (UInt8 × List UInt8)) (w : World) : OvOk Tryz.prog (tkO F h l) [] w [] [] (bodyOf Tryz.prog 10) := by
  refine ovOk_by (ns := [(1, #[(opOf Tryz.prog 10 1 0), (opOf Tryz.prog 10 1 1), (opOf Tryz.prog 10 1 2), (opOf Tryz.prog 10 1 3), (opOf Tryz.prog 10 1 4), (opOf Tryz.prog 10 1 5), (opOf Tryz.prog 10 1 6), (opOf Tryz.prog 10 1 7), (opOf Tryz.prog 10 1 8), (opOf Tryz.prog 10 1 9), (opOf Tryz.prog 10 1 10), (opOf Tryz.prog 10 1 11)], false), (6, #[(opOf Tryz.prog 10 6 0), (opOf Tryz.prog 10 6 1), (opOf Tryz.prog 10 6 2)], false), (8, #[(opOf Tryz.prog 10 8 0), (opOf Tryz.prog 10 8 1), (opOf Tryz.prog 10 8 2), (opOf Tryz.prog 10 8 3)], false), (17, opsOf Tryz.prog 10 17, false)]) (by kernel_rfl) ?_
  intro r hr
  rcases List.mem_cons.1 hr with rfl | hr
  · intro R hR K Q bl vt m a w h r hK
    cases hR
    exact r1_sound (tC := 42) (tT := 9) (fn := 36) rfl (by kernel_rfl) (by kernel_rfl) rfl ⟨by kernel_rfl, by kernel_rfl, by kernel_rfl⟩ ⟨by kernel_rfl, by kernel_rfl, by kernel_rfl⟩ ⟨by kernel_rfl, by kernel_rfl, by kernel_rfl⟩ ⟨by kernel_rfl, by kernel_rfl, by kernel_rfl⟩ ⟨by kernel_rfl, by kernel_rfl, by kernel_rfl⟩ ⟨by kernel_rfl, by kernel_rfl, by kernel_rfl⟩ ⟨by kernel_rfl, by kernel_rfl, by kernel_rfl⟩ ⟨by kernel_rfl, by kernel_rfl, by kernel_rfl⟩ ⟨by kernel_rfl, by kernel_rfl, by kernel_rfl⟩ ⟨by kernel_rfl, by kernel_rfl, by kernel_rfl⟩ ⟨by kernel_rfl, by kernel_rfl, by kernel_rfl⟩ ⟨by kernel_rfl, by kernel_rfl, by kernel_rfl⟩ h r hK
  rcases List.mem_cons.1 hr with rfl | hr
  · intro R hR K Q bl vt m a w h r hK
    cases hR
    exact r6_sound (tS := 104) (e := 99) (by decide) (by kernel_rfl) rfl ⟨by kernel_rfl, by kernel_rfl, by kernel_rfl⟩ ⟨by kernel_rfl, by kernel_rfl, by kernel_rfl⟩ ⟨by kernel_rfl, by kernel_rfl, by kernel_rfl⟩ h r hK
  rcases List.mem_cons.1 hr with rfl | hr
  · intro R hR K Q bl vt m a w h r hK
    cases hR
    exact r8_sound (tS := 104) (tF := 99) (z := .agg #[.int .i64 0, .string ⟨#[]⟩]) (by kernel_rfl) (by kernel_rfl) (by kernel_rfl) (by kernel_rfl) rfl rfl ⟨by kernel_rfl, by kernel_rfl, by kernel_rfl⟩ ⟨by kernel_rfl, by kernel_rfl, by kernel_rfl⟩ ⟨by kernel_rfl, by kernel_rfl, by kernel_rfl⟩ ⟨by kernel_rfl, by kernel_rfl, by kernel_rfl⟩ h r hK
  rcases List.mem_cons.1 hr with rfl | hr
  · intro R hR K Q bl vt m a w h r hK
    cases hR
    exact cutBy_sound xmixA (by decide) h r hK
  · cases hr
theorem scanU_len : ∀ (f : Nat) (s : List UInt8), (scanU f s).1.length ≤ f
  | 0, _ => Nat.le_refl _
  | f + 1, s => by
    unfold scanU
    split
    · exact Nat.zero_le _
    · have := scanU_len f (s.drop 1)
      dsimp only
      omega
    · rename_i n _
      have := scanU_len f (s.drop (n + 5))
      simp only [List.length_cons]
      omega
theorem scan_len (L : List UInt8) : (scanL L).1.length ≤ L.length := scanU_len _ L
set_option maxRecDepth 100000 in
theorem takes_at (h : FsOk F) (x : Cra × Int × ByteArray) (hs : x.1.2.2.1.size + x.2.2.size ≤ 5000) (w : World) (hw : GW w) :
    Calls Tryz.prog 10 ((then' cCra (then' cI (lone' cS))).enc x).toArray w fun e w' => e = .returned ((two' cCra cHea).enc (takeW F x.1 x.2.1 x.2.2)) ∧ Below w.heap.size w w' := by
  obtain ⟨c, t, b⟩ := x
  dsimp only at hs ⊢
  refine pure_atO (tbl := tkT F h) (dirty := fun _ => []) (n := (scanL (c.2.2.1 ++ b).data.toList).1.length + 1) (ov := tkO F h (scanL (c.2.2.1 ++ b).data.toList).1) xmixA (by kernel_rfl) (by kernel_rfl) (tk_ov F h _) ?_ w hw
  rw [tk_start]
  have hL : (scanL (c.2.2.1 ++ b).data.toList).1.length ≤ 5000 := Nat.le_trans (scan_len _) (by simpa [ByteArray.size_append] using hs)
  refine ⟨hs, rfl, rfl, fun sl hsl => ?_⟩
  have hp : ptrOk 5 sl = true := by
    rcases hsl with ⟨rfl, _⟩ | ⟨cap, rfl⟩ <;> rfl
  have key : ∀ c' : Cra, c' = begW c (c.2.2.1 ++ b).data.toList → tkX F h (scanL (c.2.2.1 ++ b).data.toList).1 ((scanL (c.2.2.1 ++ b).data.toList).1.length + 1) t (retQ Tryz.prog (fnOf Tryz.prog 10) (fun v _ => v = (two' cCra cHea).enc (takeW F c t b))) sl c' := by
    intro c' hc
    refine ⟨hsl, by decide, rfl, by rw [hp]; rfl, fun d => ?_⟩
    refine tk_loop F (tk_row F h _ t sl _) hL hsl hp _ _ [] rfl d (c', zeroHea) (fun i d => ?_)
    refine Eq.mpr (tk_end F h _ t i _ sl d _ _ _ (fun v => v = (two' cCra cHea).enc (takeW F c t b))) ?_
    rw [hc]
    rfl
  unfold begW at key
  by_cases ho : ((scanL (c.2.2.1 ++ b).data.toList).2.2 : Nat) > (0 : Int)
  · rw [decide_eq_true ho]
    exact key _ (if_pos ho).symm
  · rw [decide_eq_false ho]
    exact key _ (if_neg ho).symm
end
end Go.Proofs.YtoadcnhcfodkgaaGreatDoor
