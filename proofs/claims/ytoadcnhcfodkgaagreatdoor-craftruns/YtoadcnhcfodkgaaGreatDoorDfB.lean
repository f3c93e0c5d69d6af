/-
  What the document's craft takes of the bytes that came, by the symbolic run, for the seat YtoadcnhcfodkgaaGreatDoor.
-/
import Derived.Test.YtoadcnhcfodkgaaGreatDoorDfA
namespace Go.Proofs.YtoadcnhcfodkgaaGreatDoor
open Go.RowKit

/-- What the document's lower functions answer. -/
structure DsOk (F : Fs) : Prop where
  right : PureOk Tryz.prog 17 (lone' cI) F.right cB
  place : FlowOk Tryz.prog 20 (then' (cT 7) (lone' cI)) F.place (cT 3)
  dir : FlowOk Tryz.prog 21 (lone' cI) F.dir (cT 3)
  sky : FlowOk Tryz.prog 22 (then' (cT 3) (lone' cI)) F.sky (cT 3)
  norm : FlowOk Tryz.prog 23 (lone' (cT 3)) F.norm cI
  apart : FlowOk Tryz.prog 24 (then' (cT 3) (lone' (cT 3))) F.apart cB
  shaded : FlowOk Tryz.prog 25 (then' (cT 3) (lone' (cT 3))) F.shaded cB
  move : FlowOk Tryz.prog 26 (then' (cT 43) (then' (cT 3) (lone' cI))) F.move (cT 43)
  meet : FlowOk Tryz.prog 27 (then' (cT 43) (then' (cT 6) (lone' (cT 6)))) F.meet (three' (cT 43) cI cB)
  spread : FlowOk Tryz.prog 28 (lone' (cT 43)) F.spread cI
  att : FlowOk Tryz.prog 30 (then' (cT 6) (lone' (cT 6))) F.att (cT 4)
  start : PureOk Tryz.prog 31 (lone' (cT 4)) F.start (cT 43)
  bstep : FlowOk Tryz.prog 19 (then' cDri (then' (cT 3) (lone' cI))) F.bstep cDri
  dip : FlowOk Tryz.prog 32 (lone' cDri) F.dip (cT 3)
  next : PureOk Tryz.prog 29 (then' (cT 6) (lone' cSee)) F.next (cT 6)
  counts : PureOk Tryz.prog 33 (then' (cT 4) (lone' (cT 3))) F.counts (two' (cT 4) (cT 3))
  write : PureOk Tryz.prog 34 (lone' (cT 13)) F.write (two' cFra cB)
  wrap : PureOk Tryz.prog 35 (lone' cFra) F.wrap (two' cS cB)
  read : PureOk Tryz.prog 61 (lone' cFra) F.read (two' (cT 5) cB)
  fresh : PureOk Tryz.prog 62 (then' (cT 5) (lone' cI)) F.fresh cB
  oread : PureOk Tryz.prog 63 (lone' cFra) F.oread (two' (cT 9) cI)
def setR (c : Cra) (r : Int) : Cra := (c.1, c.2.1, c.2.2.1, c.2.2.2.1, c.2.2.2.2.1, c.2.2.2.2.2.1, c.2.2.2.2.2.2.1, c.2.2.2.2.2.2.2.1, (c.2.2.2.2.2.2.2.2.1, c.2.2.2.2.2.2.2.2.2.1, r, ()))
def rejD (c : Cra) : Cra := if c.2.2.2.2.2.2.2.2.2.2.1 ≥ 65535 then setR c 65535 else setR c (IntKind.i64.wrap (c.2.2.2.2.2.2.2.2.2.2.1 + 1))
theorem rejD_is : rejD = rejC := by
  funext c
  unfold rejD rejC rejW setR
  split <;> rfl
set_option maxRecDepth 100000 in
theorem rejectD_fx : PureOk Tryz.prog 60 (lone' cCra) rejC cCra := by
  rw [← rejD_is]
  exact pure_sx (tbl := []) (dirty := fun _ => []) (n := 4) xmixA Tryz.func60 rfl (fun x Post => by
    refine Eq.trans (b := ?m) ?x (Eq.symm ?y)
    case y => unfold rejD; simp only [← vif_ge (K := PJ cCra Post)]; exact rfl
    case x => kernel_rfl)
def ctrejectD : Ct Tryz.prog := pureCt Tryz.prog 60 (lone' cCra) rejC cCra (go_of Tryz.func60 (by kernel_rfl) (by kernel_rfl)) rejectD_fx
def dread (F : Fs) (h : DsOk F) : Ct Tryz.prog := pureCt Tryz.prog 61 _ F.read _ (go_of Tryz.func61 (by kernel_rfl) (by kernel_rfl)) h.read
def dfresh (F : Fs) (h : DsOk F) : Ct Tryz.prog := pureCt Tryz.prog 62 _ F.fresh _ (go_of Tryz.func62 (by kernel_rfl) (by kernel_rfl)) h.fresh
def doread (F : Fs) (h : DsOk F) : Ct Tryz.prog := pureCt Tryz.prog 63 _ F.oread _ (go_of Tryz.func63 (by kernel_rfl) (by kernel_rfl)) h.oread
/-- What the document hears: There, Read, Order. -/
abbrev HeD := Bool × Bool × Bool × Bool × Tup 5 × Tup 5 × Tup 5 × Tup 5 × Int
abbrev dHeD : Dl HeD := then' cB (then' cB (then' cB (then' cB (dcat 5 (dT 5) (dcat 5 (dT 5) (dcat 5 (dT 5) (dcat 5 (dT 5) (lone' cI))))))))
def dfZero5 : Tup 5 := (0, 0, 0, 0, 0, ())
def zeroHeD : HeD := (false, false, false, false, dfZero5, dfZero5, dfZero5, dfZero5, 0)
def set1 (h : HeD) (r : Tup 5) : HeD := (h.1, true, h.2.2.1, h.2.2.2.1, h.2.2.2.2.1, r, h.2.2.2.2.2.2.1, h.2.2.2.2.2.2.2.1, h.2.2.2.2.2.2.2.2)
def set2 (h : HeD) (r : Tup 5) : HeD := (h.1, h.2.1, true, h.2.2.2.1, h.2.2.2.2.1, h.2.2.2.2.2.1, r, h.2.2.2.2.2.2.2.1, h.2.2.2.2.2.2.2.2)
def set3 (h : HeD) (r : Tup 5) : HeD := (h.1, h.2.1, h.2.2.1, true, h.2.2.2.2.1, h.2.2.2.2.2.1, h.2.2.2.2.2.2.1, r, h.2.2.2.2.2.2.2.2)
def setO (h : HeD) (o : Int) : HeD := (h.1, h.2.1, h.2.2.1, h.2.2.2.1, h.2.2.2.2.1, h.2.2.2.2.2.1, h.2.2.2.2.2.2.1, h.2.2.2.2.2.2.2.1, o)
def fks : List Nat := [1, 3, 6, 7, 8, 12, 9]
def fkF (t i : Int) (sl : Value) (d : Nat → Value) : List Value := frm [(1, .int .i64 t), (3, ptr 0), (6, ptr 1), (7, ptr 2), (8, ptr 3), (12, .int .i64 i), (9, sl)] d 116
def fkE (t i n : Int) (sl : Value) (d : Nat → Value) : List Value := vset (((((fkF t i sl d).set 34 (.int .i64 i)).set 35 sl).set 36 (.int .i64 n)).set 37 (.bool (decide (i < n)))) (.tmp 37) false
def fkM (c : Cra) (h : HeD) (l : List (UInt8 × List UInt8)) : Xm := [dCra.enc c, dCra.enc zeroCra, dHeD.enc zeroHeD, dHeD.enc h, cellsOf l]
def fkT (F : Fs) (h : DsOk F) : List (Ct Tryz.prog) := [ctrejectD, dread F h, dfresh F h, doread F h]
def fkO (F : Fs) (h : DsOk F) (l : List (UInt8 × List UInt8)) : Ov := fun id => match id with
  | 2 => some fun _ _ => fScan
  | 6 => some (cutBy Tryz.prog (fkT F h) (fun _ => []) 6 fks 116 5)
  | 7 => some fun _ _ => fLen l
  | 8 => some (cutBy Tryz.prog (fkT F h) (fun _ => []) 8 fks 116 5)
  | 9 => some fun _ _ => fOne l
  | _ => none
def fkB (P : Program) : Code := cpart [true, true, true, true, true, false, true] (bodyOf P 18)
def fkL (P : Program) : Code := cpart [false, false] (fkB P)
def fkZ (P : Program) : Code := cpart [true, true, true, true, true, true] (bodyOf P 18)
section
variable (F : Fs) (h : DsOk F)
/-- Behind a frame. -/
def fnx (t i : Int) (sl : Value) (l : List (UInt8 × List UInt8)) (Q : VQ) (s : Cra × HeD) : Prop :=
  116 = 116 ∧ (ptrOk 5 sl && true) = true ∧ ∀ d, Q .normal (fkF t (IntKind.i64.wrap (i + 1)) sl d) (fkM s.1 s.2 l)
def senV (t : Int) (c : Cra) (x : HeD) (f : Fra) (set : HeD → Tup 5 → HeD) (N : Cra × HeD → Prop) : Prop :=
  vif (!(F.read f).2) (N (rejC c, x)) (vif (!(F.fresh ((F.read f).1, t))) (N (rejC c, x)) (N (c, set x (F.read f).1)))
def ordV (c : Cra) (x : HeD) (o : Tup 9 × Int) (N : Cra × HeD → Prop) : Prop :=
  vif (!decide (o.2 = 0)) (N (rejC (ackC c o.1.1 o.2), x)) (vif (decide (o.1.2.1 = 1)) (N (ackC c o.1.1 o.2, setO x o.1.2.1)) (vif (decide (o.1.2.1 = 2)) (N (ackC c o.1.1 o.2, setO x o.1.2.1))
    (vif (decide (o.1.2.1 = 3)) (N (orbC (ackC c o.1.1 o.2) o.1.2.2, x)) (vif (decide (o.1.2.1 = 4)) (N (clrC (ackC c o.1.1 o.2), x)) (N (ackC c o.1.1 o.2, x))))))
def kindV (t : Int) (c : Cra) (x : HeD) (f : Fra) (N : Cra × HeD → Prop) : Prop :=
  (f.1 = 0 → N (rejC c, x)) ∧ (f.1 = 1 → senV F t c x (1, f.2) set1 N) ∧ (f.1 = 2 → senV F t c x (2, f.2) set2 N) ∧ (f.1 = 3 → senV F t c x (3, f.2) set3 N) ∧
    (∀ n : Nat, f.1 = ((n + 4 : Nat) : Int) → vif (decide (((n + 4 : Nat) : Int) ≥ 1)) (vif (!decide (((n + 4 : Nat) : Int) = 16)) (N (rejC c, x)) (ordV c x (F.oread (((n + 4 : Nat) : Int), f.2)) N)) (vif (!decide (((n + 4 : Nat) : Int) = 16)) (N (rejC c, x)) (ordV c x (F.oread (((n + 4 : Nat) : Int), f.2)) N)))
set_option maxRecDepth 100000 in
theorem fk_round (n : Nat) (t i : Int) (sl : Value) (d : Nat → Value) (l : List (UInt8 × List UInt8)) (c : Cra) (x : HeD) (Q : VQ) :
    swpO Tryz.prog (fkT F h) (fun _ => []) n (fkO F h l) (fkL Tryz.prog) Q (fkF t i sl d) (fkM c x l) =
      (SlAt 4 sl l ∧ 116 = 116 ∧ vif (decide (i < (l.length : Nat))) ((0 ≤ i ∧ i.toNat < l.length) ∧ SlAt 4 sl l ∧ some (cellsOf l) = some (cellsOf l) ∧ 5 = 5 ∧ 116 = 116 ∧ kindV F t c x (frL l i) (fnx t i sl l Q))
      (Q (.exit 0) (fkE t i (l.length : Nat) sl d) (fkM c x l))) := by kernel_rfl
end
abbrev cHeD : Dc HeD := cAgg dHeD
def senD (F : Fs) (t : Int) (c : Cra) (x : HeD) (f : Fra) (set : HeD → Tup 5 → HeD) : Cra × HeD :=
  if !(F.read f).2 then (rejC c, x) else if !(F.fresh ((F.read f).1, t)) then (rejC c, x) else (c, set x (F.read f).1)
def ordD (c : Cra) (x : HeD) (o : Tup 9 × Int) : Cra × HeD :=
  if !decide (o.2 = 0) then (rejC (ackC c o.1.1 o.2), x) else if decide (o.1.2.1 = 1) then (ackC c o.1.1 o.2, setO x o.1.2.1) else if decide (o.1.2.1 = 2) then (ackC c o.1.1 o.2, setO x o.1.2.1)
    else if decide (o.1.2.1 = 3) then (orbC (ackC c o.1.1 o.2) o.1.2.2, x) else if decide (o.1.2.1 = 4) then (clrC (ackC c o.1.1 o.2), x) else (ackC c o.1.1 o.2, x)
/-- A frame is heard. -/
def hearD (F : Fs) (t : Int) (s : Cra × HeD) (f : Fra) : Cra × HeD :=
  if f.1 = 1 then senD F t s.1 s.2 f set1 else if f.1 = 2 then senD F t s.1 s.2 f set2 else if f.1 = 3 then senD F t s.1 s.2 f set3 else if f.1 = 16 then ordD s.1 s.2 (F.oread f) else (rejC s.1, s.2)
def takeD (F : Fs) (c : Cra) (t : Int) (b : ByteArray) : Cra × HeD :=
  ((scanL (c.2.2.1 ++ b).data.toList).1.map fraOf).foldl (hearD F t) (begW c (c.2.2.1 ++ b).data.toList, zeroHeD)
theorem senV_is (F : Fs) (t : Int) (c : Cra) (x : HeD) (f : Fra) (set : HeD → Tup 5 → HeD) (N : Cra × HeD → Prop) : senV F t c x f set N = N (senD F t c x f set) := by
  unfold senV senD
  simp only [vif_b (K := N)]
theorem ordV_is (c : Cra) (x : HeD) (o : Tup 9 × Int) (N : Cra × HeD → Prop) : ordV c x o N = N (ordD c x o) := by
  unfold ordV ordD
  simp only [vif_b (K := N)]
theorem kindV_of {F : Fs} {t : Int} {c : Cra} {x : HeD} {f : Fra} {N : Cra × HeD → Prop} (h : N (hearD F t (c, x) f)) : kindV F t c x f N := by
  obtain ⟨k, s⟩ := f
  unfold kindV
  simp only [senV_is, ordV_is]
  refine ⟨fun e => ?_, fun e => ?_, fun e => ?_, fun e => ?_, fun n e => ?_⟩
  · subst e; exact h
  · subst e; exact h
  · subst e; exact h
  · subst e; exact h
  · subst e
    have e : hearD F t (c, x) (((n + 4 : Nat) : Int), s) = if ((n + 4 : Nat) : Int) = 16 then ordD c x (F.oread (((n + 4 : Nat) : Int), s)) else (rejC c, x) := by
      unfold hearD
      rw [if_neg (by dsimp only; omega), if_neg (by dsimp only; omega), if_neg (by dsimp only; omega)]
    rw [e] at h
    have k : vif (!decide (((n + 4 : Nat) : Int) = 16)) (N (rejC c, x)) (N (ordD c x (F.oread (((n + 4 : Nat) : Int), s)))) := by
      rw [vif_ne (K := N)]
      exact h
    cases decide (((n + 4 : Nat) : Int) ≥ 1)
    · exact k
    · exact k
/-- A round, as a row. -/
def FkR (F : Fs) (t : Int) (sl : Value) (l : List (UInt8 × List UInt8)) (G : VQ → List Value → Xm → Prop) : Prop := ∀ (i : Int) (d : Nat → Value) (c : Cra) (x : HeD) (Q : VQ), G Q (fkF t i sl d) (fkM c x l) =
      (SlAt 4 sl l ∧ 116 = 116 ∧ vif (decide (i < (l.length : Nat))) ((0 ≤ i ∧ i.toNat < l.length) ∧ SlAt 4 sl l ∧ some (cellsOf l) = some (cellsOf l) ∧ 5 = 5 ∧ 116 = 116 ∧ kindV F t c x (frL l i) (fnx t i sl l Q))
      (Q (.exit 0) (fkE t i (l.length : Nat) sl d) (fkM c x l)))
theorem fk_loop {F : Fs} {t : Int} {sl : Value} {l : List (UInt8 × List UInt8)} {G : VQ → List Value → Xm → Prop} (hG : FkR F t sl l G) (hl : l.length ≤ 5000) (hs : SlAt 4 sl l) (Q : VQ) (rest : List (UInt8 × List UInt8)) : ∀ (pre : List (UInt8 × List UInt8)), l = pre ++ rest → ∀ (d : Nat → Value) (s : Cra × HeD),
    (∀ i d, Q (.exit 0) (fkE t i (l.length : Nat) sl d) (fkM ((rest.map fraOf).foldl (hearD F t) s).1 ((rest.map fraOf).foldl (hearD F t) s).2 l)) →
    loopN (rest.length + 1) G Q (fkF t pre.length sl d) (fkM s.1 s.2 l) := by
  have hp : ptrOk 5 sl = true := hs.ptr (by decide)
  induction rest with
  | nil =>
    intro pre e d s hQ
    have e1 : l.length = pre.length := by rw [e]; simp
    rw [List.length_nil, loopN, hG, decide_eq_false (by omega)]
    exact ⟨hs, rfl, hQ _ d⟩
  | cons f rest ih =>
    intro pre e d s hQ
    have e1 : l.length = pre.length + (rest.length + 1) := by rw [e]; simp
    rw [List.length_cons, loopN, hG, decide_eq_true (by omega)]
    refine ⟨hs, rfl, ⟨by omega, by rw [Int.toNat_natCast]; omega⟩, hs, rfl, rfl, rfl, kindV_of ⟨rfl, by rw [hp]; rfl, fun d => ?_⟩⟩
    have hw : IntKind.i64.wrap ((pre.length : Int) + 1) = ((pre ++ [f]).length : Nat) := by
      rw [IntKind.wrap_i64, List.length_append, List.length_singleton]
      omega
    have hf : frL l (pre.length : Nat) = fraOf f := by rw [e]; exact frL_at pre rest f
    rw [hw, hf]
    exact ih (pre ++ [f]) (by rw [e]; simp) d (hearD F t s (fraOf f)) hQ
section
variable (F : Fs) (h : DsOk F)
theorem fk_row (n : Nat) (t : Int) (sl : Value) (l : List (UInt8 × List UInt8)) : FkR F t sl l (swpO Tryz.prog (fkT F h) (fun _ => []) n (fkO F h l) (fkL Tryz.prog)) :=
  fun i d c x Q => fk_round F h n t i sl d l c x Q
/-- Behind the loop. -/
def fkQ (l : List (UInt8 × List UInt8)) (n : Nat) (Q : VQ) : VQ := fun e vt m => match e with
  | .normal => swpO Tryz.prog (fkT F h) (fun _ => []) n (fkO F h l) (fkZ Tryz.prog) Q vt m
  | e => Q e vt m
def fkX (l : List (UInt8 × List UInt8)) (n : Nat) (t : Int) (Q : VQ) (sl : Value) (c : Cra) : Prop :=
  116 = 116 ∧ (ptrOk 5 sl && true) = true ∧ ∀ d, swpO Tryz.prog (fkT F h) (fun _ => []) n (fkO F h l) (fkB Tryz.prog) (fkQ F h l n Q) (fkF t 0 sl d) (fkM c zeroHeD l)
set_option maxRecDepth 100000 in
theorem fk_start (n : Nat) (t : Int) (c : Cra) (b : ByteArray) (Q : VQ) :
    swpO Tryz.prog (fkT F h) (fun _ => []) n (fkO F h (scanL (c.2.2.1 ++ b).data.toList).1) (bodyOf Tryz.prog 18) Q ((then' cCra (then' cI (lone' cS))).enc (c, t, b) ++ List.replicate ((fnOf Tryz.prog 18).ntmps - ((then' cCra (then' cI (lone' cS))).enc (c, t, b)).length) undef) [] =
      (c.2.2.1.size + b.size ≤ 5000 ∧ 4 = 4 ∧ 116 = 116 ∧ ∀ sl, SlAt 4 sl (scanL (c.2.2.1 ++ b).data.toList).1 → vif (decide (((scanL (c.2.2.1 ++ b).data.toList).2.2 : Nat) > (0 : Int)))
        (fkX F h (scanL (c.2.2.1 ++ b).data.toList).1 n t Q sl (rejC (leftC c (restOf (c.2.2.1 ++ b).data.toList)))) (fkX F h (scanL (c.2.2.1 ++ b).data.toList).1 n t Q sl (leftC c (restOf (c.2.2.1 ++ b).data.toList)))) := by kernel_rfl
set_option maxRecDepth 100000 in
theorem fk_end (n : Nat) (t i nn : Int) (sl : Value) (d : Nat → Value) (l : List (UInt8 × List UInt8)) (c : Cra) (x : HeD) (Post : Value → Prop) :
    swpO Tryz.prog (fkT F h) (fun _ => []) n (fkO F h l) (fkZ Tryz.prog) (retQ Tryz.prog (fnOf Tryz.prog 18) (fun v _ => Post v)) (fkE t i nn sl d) (fkM c x l) = Post ((two' cCra cHeD).enc (c, x)) := by kernel_rfl
end
end Go.Proofs.YtoadcnhcfodkgaaGreatDoor
