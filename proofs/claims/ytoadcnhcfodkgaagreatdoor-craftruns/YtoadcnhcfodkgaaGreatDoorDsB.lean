/-
  A step of the document's craft, by the symbolic run, stage by stage, for the seat YtoadcnhcfodkgaaGreatDoor.
-/
import Derived.Test.YtoadcnhcfodkgaaGreatDoorDfC
import Derived.Test.YtoadcnhcfodkgaaGreatDoorDsA
import Derived.Test.YtoadcnhcfodkgaaGreatDoorCwD
namespace Go.Proofs.YtoadcnhcfodkgaaGreatDoor
open Go.RowKit

section
variable (F : Fs) (h : DsOk F)
def dsT : List (Ct Tryz.prog) :=
  [pureCt Tryz.prog 17 _ F.right _ (go_of Tryz.func17 (by kernel_rfl) (by kernel_rfl)) h.right,
  flowCt Tryz.prog 20 _ F.place _ (go_of Tryz.func20 (by kernel_rfl) (by kernel_rfl)) h.place,
  flowCt Tryz.prog 21 _ F.dir _ (go_of Tryz.func21 (by kernel_rfl) (by kernel_rfl)) h.dir,
  flowCt Tryz.prog 22 _ F.sky _ (go_of Tryz.func22 (by kernel_rfl) (by kernel_rfl)) h.sky,
  flowCt Tryz.prog 23 _ F.norm _ (go_of Tryz.func23 (by kernel_rfl) (by kernel_rfl)) h.norm,
  flowCt Tryz.prog 24 _ F.apart _ (go_of Tryz.func24 (by kernel_rfl) (by kernel_rfl)) h.apart,
  flowCt Tryz.prog 25 _ F.shaded _ (go_of Tryz.func25 (by kernel_rfl) (by kernel_rfl)) h.shaded,
  flowCt Tryz.prog 26 _ F.move _ (go_of Tryz.func26 (by kernel_rfl) (by kernel_rfl)) h.move,
  flowCt Tryz.prog 27 _ F.meet _ (go_of Tryz.func27 (by kernel_rfl) (by kernel_rfl)) h.meet,
  flowCt Tryz.prog 28 _ F.spread _ (go_of Tryz.func28 (by kernel_rfl) (by kernel_rfl)) h.spread,
  flowCt Tryz.prog 30 _ F.att _ (go_of Tryz.func30 (by kernel_rfl) (by kernel_rfl)) h.att,
  pureCt Tryz.prog 31 _ F.start _ (go_of Tryz.func31 (by kernel_rfl) (by kernel_rfl)) h.start,
  flowCt Tryz.prog 19 _ F.bstep _ (go_of Tryz.func19 (by kernel_rfl) (by kernel_rfl)) h.bstep,
  flowCt Tryz.prog 32 _ F.dip _ (go_of Tryz.func32 (by kernel_rfl) (by kernel_rfl)) h.dip,
  pureCt Tryz.prog 29 _ F.next _ (go_of Tryz.func29 (by kernel_rfl) (by kernel_rfl)) h.next,
  pureCt Tryz.prog 33 _ F.counts _ (go_of Tryz.func33 (by kernel_rfl) (by kernel_rfl)) h.counts,
  pureCt Tryz.prog 34 _ F.write _ (go_of Tryz.func34 (by kernel_rfl) (by kernel_rfl)) h.write,
  pureCt Tryz.prog 35 _ F.wrap _ (go_of Tryz.func35 (by kernel_rfl) (by kernel_rfl)) h.wrap]
def dsU (x : Cra × Int × ByteArray) (y : Cra × HeD) (hY : ∀ w, GW w → Calls Tryz.prog 18 ((then' cCra (then' cI (lone' cS))).enc x).toArray w fun e w' => e = .returned ((two' cCra cHeD).enc y) ∧ Below w.heap.size w w') : List (Ct Tryz.prog) :=
  ctAt Tryz.prog 18 (then' cCra (then' cI (lone' cS))) (two' cCra cHeD) x y (go_of Tryz.func18 (by kernel_rfl) (by kernel_rfl)) hY :: dsT F h
abbrev SeD := Bool × Bool × Bool × Bool × Bool × Bool × Bool × Int
abbrev dSeD : Dl SeD := then' cB (then' cB (then' cB (then' cB (then' cB (then' cB (then' cB (lone' cI)))))))
def q5 : List Nat := [1, 3, 6, 7, 8, 9, 10]
def q8 : List Nat := [1, 3, 6, 7, 8, 9, 10, 11]
def q17 : List Nat := [1, 3, 6, 7, 8, 9, 10, 11, 12, 13, 15]
def q21 : List Nat := [1, 3, 6, 7, 8, 9, 10, 11, 12, 13, 15, 16, 17, 18]
def q30 : List Nat := [1, 3, 6, 7, 10, 11, 12, 13, 15, 16, 17, 174]
def q35 : List Nat := [1, 3, 6, 7, 10, 11, 12, 15, 16, 17, 194]
def q37 : List Nat := [1, 3, 6, 7, 10, 12, 15, 16, 17, 211]
def q50 : List Nat := [1, 3, 6, 7, 12, 15, 16, 30]
def q51 : List Nat := [1, 3, 6, 7, 12, 15, 30]
def q54 : List Nat := [1, 3, 6, 7, 31, 32]
def q58 : List Nat := [1, 3, 6, 7, 299]
def q60 : List Nat := [1, 3, 6, 7]
def dsO (T : List (Ct Tryz.prog)) : Ov := fun id => match id with
  | 5 => some (pickBy Tryz.prog T (fun _ => []) 5 q5 353)
  | 8 => some (pickBy Tryz.prog T (fun _ => []) 8 q8 353)
  | 17 => some (pickBy Tryz.prog T (fun _ => []) 17 q17 353)
  | 21 => some (pickBy Tryz.prog T (fun _ => []) 21 q21 353)
  | 23 => some (pickBy Tryz.prog T (fun _ => []) 23 q21 353)
  | 30 => some (pickBy Tryz.prog T (fun _ => []) 30 q30 353)
  | 35 => some (pickBy Tryz.prog T (fun _ => []) 35 q35 353)
  | 37 => some (pickBy Tryz.prog T (fun _ => []) 37 q37 353)
  | 50 => some (pickBy Tryz.prog T (fun _ => []) 50 q50 353)
  | 51 => some (pickBy Tryz.prog T (fun _ => []) 51 q51 353)
  | 54 => some (pickBy Tryz.prog T (fun _ => []) 54 q54 353)
  | 58 => some (pickBy Tryz.prog T (fun _ => []) 58 q58 353)
  | 60 => some (pickBy Tryz.prog T (fun _ => []) 60 q60 353)
  | _ => none
/-- The code behind so many statements. -/
def dsN (P : Program) (n : Nat) : Code := cpart (List.replicate n true) (bodyOf P 8)
def dsC0 (P : Program) (n : Nat) : Code := cpart (List.replicate n true ++ [false, true]) (bodyOf P 8)
def noS : ByteArray := ⟨#[]⟩
def f5 (t was : Int) (on : Bool) (d : Nat → Value) : List Value := frm [(1, .int .i64 t), (3, ptr 0), (6, ptr 1), (7, .string noS), (8, .int .i64 was), (9, .bool on), (10, ptr 2)] d 353
def f8 (t was : Int) (on : Bool) (d : Nat → Value) : List Value := frm [(1, .int .i64 t), (3, ptr 0), (6, ptr 1), (7, .string noS), (8, .int .i64 was), (9, .bool on), (10, ptr 2), (11, ptr 3)] d 353
def f17 (t was : Int) (on kn : Bool) (d : Nat → Value) : List Value := frm [(1, .int .i64 t), (3, ptr 0), (6, ptr 1), (7, .string noS), (8, .int .i64 was), (9, .bool on), (10, ptr 2), (11, ptr 3), (12, ptr 4), (13, .bool kn), (15, ptr 5)] d 353
def f21 (t was : Int) (on kn : Bool) (ms i : Int) (d : Nat → Value) : List Value := frm [(1, .int .i64 t), (3, ptr 0), (6, ptr 1), (7, .string noS), (8, .int .i64 was), (9, .bool on), (10, ptr 2), (11, ptr 3), (12, ptr 4), (13, .bool kn), (15, ptr 5), (16, ptr 6), (17, .int .i64 ms), (18, .int .i64 i)] d 353
def m5 (c : Cra) (x : HeD) : Xm := [dCra.enc c, dCra.enc zeroCra, dHeD.enc x]
def m8 (c : Cra) (x : HeD) (p : Tup 3) : Xm := [dCra.enc c, dCra.enc zeroCra, dHeD.enc x, (dT 3).enc p]
def m17 (c : Cra) (x : HeD) (p : Tup 3) (s b : Tup 6) : Xm := [dCra.enc c, dCra.enc zeroCra, dHeD.enc x, (dT 3).enc p, (dT 6).enc s, (dT 6).enc b]
def m21 (c : Cra) (x : HeD) (p : Tup 3) (s b : Tup 6) (e : SeD) : Xm := [dCra.enc c, dCra.enc zeroCra, dHeD.enc x, (dT 3).enc p, (dT 6).enc s, (dT 6).enc b, dSeD.enc e]
/-- Behind a cut. -/
def cutP (K : (Nat → Value) → Prop) : Prop := 353 = 353 ∧ true = true ∧ true = true ∧ ∀ d, K d
variable (T : List (Ct Tryz.prog)) {x0 : Cra × Int × ByteArray} {y0 : Cra × HeD} {hY : ∀ w, GW w → Calls Tryz.prog 18 ((then' cCra (then' cI (lone' cS))).enc x0).toArray w fun e w' => e = .returned ((two' cCra cHeD).enc y0) ∧ Below w.heap.size w w'}
/-- Stage 1: the change of the field. -/
def r3D (x : HeD) : Tup 5 := x.2.2.2.2.2.2.2.1
set_option maxRecDepth 100000 in
theorem ds_1 (hT : T = dsU F h x0 y0 hY) (n : Nat) (t was : Int) (on : Bool) (d : Nat → Value) (c : Cra) (x : HeD) (Q : VQ) :
    swpO Tryz.prog T (fun _ => []) n (dsO T) (dsN Tryz.prog 5) Q (f5 t was on d) (m5 c x) =
      vif x.2.2.2.1 (cutP fun d => swpO Tryz.prog T (fun _ => []) n (dsO T) (dsN Tryz.prog 7) Q (f8 t was on d) (m8 (setDri c (F.bstep false (c.2.2.2.2.2.2.1, (r3D x).2.2, (r3D x).2.1)).1) x (0, 0, 0, ())))
      (cutP fun d => swpO Tryz.prog T (fun _ => []) n (dsO T) (dsN Tryz.prog 7) Q (f8 t was on d) (m8 c x (0, 0, 0, ()))) := by
  subst hT
  kernel_rfl
/-- Stage 2: where the craft is. -/
def skyR (c : Cra) (t : Int) : Bool × Tup 3 × Tup 6 :=
  (!(F.sky (F.dir (F.place false (c.2.2.2.2.2.1, t)).2 t).2 ((F.place false (c.2.2.2.2.2.1, t)).1, t)).2, (F.place false (c.2.2.2.2.2.1, t)).1, pairT (F.dir (F.place false (c.2.2.2.2.2.1, t)).2 t).1 (F.sky (F.dir (F.place false (c.2.2.2.2.2.1, t)).2 t).2 ((F.place false (c.2.2.2.2.2.1, t)).1, t)).1)
def bodD (x : HeD) : Tup 6 := pairT x.2.2.2.2.2.2.1.2.2 x.2.2.2.2.2.2.2.1.2.2
set_option maxRecDepth 100000 in
theorem ds_2 (hT : T = dsU F h x0 y0 hY) (n : Nat) (t was : Int) (on : Bool) (d : Nat → Value) (c : Cra) (x : HeD) (Q : VQ) :
    swpO Tryz.prog T (fun _ => []) n (dsO T) (dsN Tryz.prog 7) Q (f8 t was on d) (m8 c x (0, 0, 0, ())) =
      vif c.2.2.2.2.1 (cutP fun d => swpO Tryz.prog T (fun _ => []) n (dsO T) (dsN Tryz.prog 11) Q (f17 t was on (skyR F c t).1 d) (m17 c x (skyR F c t).2.1 (skyR F c t).2.2 (bodD x)))
      (cutP fun d => swpO Tryz.prog T (fun _ => []) n (dsO T) (dsN Tryz.prog 11) Q (f17 t was on false d) (m17 c x (0, 0, 0, ()) (0, 0, 0, 0, 0, 0, ()) (bodD x))) := by
  subst hT
  kernel_rfl
/-- Behind a statement: the rest. -/
def seqQ (n k : Nat) (Q : VQ) : VQ := fun e vt m => match e with
  | .normal => swpO Tryz.prog T (fun _ => []) n (dsO T) (dsN Tryz.prog k) Q vt m
  | e => Q e vt m
def see0 (x : HeD) : SeD := (true, x.2.1, false, false, false, false, false, x.2.2.2.2.2.2.2.2)
set_option maxRecDepth 100000 in
theorem ds_3 (n : Nat) (t was : Int) (on kn : Bool) (d : Nat → Value) (c : Cra) (x : HeD) (p : Tup 3) (s b : Tup 6) (Q : VQ) :
    swpO Tryz.prog T (fun _ => []) n (dsO T) (dsN Tryz.prog 11) Q (f17 t was on kn d) (m17 c x p s b) =
      cutP fun d => swpO Tryz.prog T (fun _ => []) n (dsO T) (dsC0 Tryz.prog 14) (seqQ T n 15 Q) (f21 t was on kn 0 10 d) (m21 c x p s b (see0 x)) := by
  kernel_rfl
def dsL (P : Program) : Code := cpart [false, false] (dsC0 P 14)
def f21E (t was : Int) (on kn : Bool) (ms i : Int) (d : Nat → Value) : List Value := vset (((f21 t was on kn ms i d).set 124 (.int .i64 i)).set 125 (.bool (decide (i ≤ 10000)))) (.tmp 125) false
def setGap (e : SeD) (g : Bool) : SeD := (g, e.2)
/-- Behind a round. -/
def dnx (t was : Int) (on kn : Bool) (i : Int) (c : Cra) (x : HeD) (p : Tup 3) (s b : Tup 6) (Q : VQ) (e : SeD) (ms : Int) : Prop :=
  cutP fun d => Q .normal (f21 t was on kn ms (IntKind.i64.wrap (i + 1)) d) (m21 c x p s b e)
set_option maxRecDepth 100000 in
theorem ds_round (n : Nat) (t was : Int) (on kn : Bool) (ms i : Int) (d : Nat → Value) (c : Cra) (x : HeD) (p : Tup 3) (s b : Tup 6) (e : SeD) (Q : VQ) :
    swpO Tryz.prog T (fun _ => []) n (dsO T) (dsL Tryz.prog) Q (f21 t was on kn ms i d) (m21 c x p s b e) =
      vif (decide (i ≤ 10000)) (vif on (vif (decide (was ≤ IntKind.i64.wrap (t - i))) (vif (decide (IntKind.i64.wrap (was + i) = t)) (dnx t was on kn i c x p s b Q (setGap e false) i) (dnx t was on kn i c x p s b Q e ms)) (dnx t was on kn i c x p s b Q e ms)) (dnx t was on kn i c x p s b Q e ms))
      (Q (.exit 0) (f21E t was on kn ms i d) (m21 c x p s b e)) := by
  kernel_rfl
end
end Go.Proofs.YtoadcnhcfodkgaaGreatDoor
