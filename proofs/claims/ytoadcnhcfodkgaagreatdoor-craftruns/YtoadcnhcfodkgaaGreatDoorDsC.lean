/-
  The later stages of the document's step, by the symbolic run, for the seat YtoadcnhcfodkgaaGreatDoor.
-/
import Derived.Test.YtoadcnhcfodkgaaGreatDoorDsB
namespace Go.Proofs.YtoadcnhcfodkgaaGreatDoor
open Go.RowKit

def f30 (t ms : Int) (kn b : Bool) (d : Nat → Value) : List Value := frm [(1, .int .i64 t), (3, ptr 0), (6, ptr 1), (7, .string noS), (10, ptr 2), (11, ptr 3), (12, ptr 4), (13, .bool kn), (15, ptr 5), (16, ptr 6), (17, .int .i64 ms), (174, .bool b)] d 353
def f35 (t ms : Int) (kn : Bool) (d : Nat → Value) : List Value := frm [(1, .int .i64 t), (3, ptr 0), (6, ptr 1), (7, .string noS), (10, ptr 2), (11, ptr 3), (12, ptr 4), (15, ptr 5), (16, ptr 6), (17, .int .i64 ms), (194, .bool kn)] d 353
def f37 (t ms : Int) (b : Bool) (d : Nat → Value) : List Value := frm [(1, .int .i64 t), (3, ptr 0), (6, ptr 1), (7, .string noS), (10, ptr 2), (12, ptr 3), (15, ptr 4), (16, ptr 5), (17, .int .i64 ms), (211, .bool b)] d 353
def f50 (t md : Int) (d : Nat → Value) : List Value := frm [(1, .int .i64 t), (3, ptr 0), (6, ptr 1), (7, .string noS), (12, ptr 2), (15, ptr 3), (16, ptr 4), (30, .int .i64 md)] d 353
def f58 (t : Int) (b : Bool) (d : Nat → Value) : List Value := frm [(1, .int .i64 t), (3, ptr 0), (6, ptr 1), (7, .string noS), (299, .bool b)] d 353
def f60 (t : Int) (d : Nat → Value) : List Value := frm [(1, .int .i64 t), (3, ptr 0), (6, ptr 1), (7, .string noS)] d 353
def m37 (c : Cra) (x : HeD) (s b : Tup 6) (e : SeD) : Xm := [dCra.enc c, dCra.enc zeroCra, dHeD.enc x, (dT 6).enc s, (dT 6).enc b, dSeD.enc e]
def m50 (c : Cra) (s b : Tup 6) (e : SeD) : Xm := [dCra.enc c, dCra.enc zeroCra, (dT 6).enc s, (dT 6).enc b, dSeD.enc e]
def m58 (c : Cra) : Xm := [dCra.enc c, dCra.enc zeroCra]
def r1D (x : HeD) : Tup 5 := x.2.2.2.2.2.1
def setSlow (e : SeD) (b : Bool) : SeD := (e.1, e.2.1, b, e.2.2.2)
def setPair (e : SeD) (b : Bool) : SeD := (e.1, e.2.1, e.2.2.1, b, e.2.2.2.2)
def setLit (e : SeD) (b : Bool) : SeD := (e.1, e.2.1, e.2.2.1, e.2.2.2.1, b, e.2.2.2.2.2)
def setBad (e : SeD) (b : Bool) : SeD := (e.1, e.2.1, e.2.2.1, e.2.2.2.1, e.2.2.2.2.1, b, e.2.2.2.2.2.2)
def setPass (e : SeD) (b : Bool) : SeD := (e.1, e.2.1, e.2.2.1, e.2.2.2.1, e.2.2.2.2.1, e.2.2.2.2.2.1, b, e.2.2.2.2.2.2.2)
def setPlan (c : Cra) (p : Tup 6) : Cra := (c.1, c.2.1, c.2.2.1, p, c.2.2.2.2)
def setOn (c : Cra) : Cra := (true, c.2)
def setTick (c : Cra) (t : Int) : Cra := (c.1, t, c.2.2)
section
variable (F : Fs) (h : DsOk F) (T : List (Ct Tryz.prog)) (n : Nat) (Q : VQ) {x0 : Cra × Int × ByteArray} {y0 : Cra × HeD} {hY : ∀ w, GW w → Calls Tryz.prog 18 ((then' cCra (then' cI (lone' cS))).enc x0).toArray w fun e w' => e = .returned ((two' cCra cHeD).enc y0) ∧ Below w.heap.size w w'}
def c30 (t ms : Int) (kn : Bool) (c : Cra) (x : HeD) (p : Tup 3) (s b : Tup 6) (e : SeD) (v : Bool) : Prop := cutP fun d => swpO Tryz.prog T (fun _ => []) n (dsO T) (dsC0 Tryz.prog 16) (seqQ T n 17 Q) (f30 t ms kn v d) (m21 c x p s b e)
def g30 (t ms : Int) (kn : Bool) (c : Cra) (x : HeD) (p : Tup 3) (s b : Tup 6) (e : SeD) : Prop :=
  vif kn (vif x.2.2.1 (c30 T n Q t ms kn c x p s b e x.2.2.2.1) (c30 T n Q t ms kn c x p s b e false)) (c30 T n Q t ms kn c x p s b e false)
set_option maxRecDepth 100000 in
theorem ds_5 (hT : T = dsU F h x0 y0 hY) (t was : Int) (on kn : Bool) (ms i : Int) (d : Nat → Value) (c : Cra) (x : HeD) (p : Tup 3) (s b : Tup 6) (e : SeD) :
    swpO Tryz.prog T (fun _ => []) n (dsO T) (dsN Tryz.prog 15) Q (f21E t was on kn ms i d) (m21 c x p s b e) =
      vif e.2.1 (vif (decide ((F.norm false (r1D x).2.2).1 ≤ 54975581388)) (g30 T n Q t ms kn c x p s b (setSlow e (!(F.norm false (r1D x).2.2).2))) (g30 T n Q t ms kn c x p s b (setSlow e false))) (g30 T n Q t ms kn c x p s b e) := by
  subst hT
  kernel_rfl
def c35 (t ms : Int) (kn : Bool) (c : Cra) (x : HeD) (p : Tup 3) (s b : Tup 6) (e : SeD) : Prop := cutP fun d => swpO Tryz.prog T (fun _ => []) n (dsO T) (dsC0 Tryz.prog 17) (seqQ T n 18 Q) (f35 t ms kn d) (m21 c x p s b e)
set_option maxRecDepth 100000 in
theorem ds_6 (hT : T = dsU F h x0 y0 hY) (t ms : Int) (kn v : Bool) (d : Nat → Value) (c : Cra) (x : HeD) (p : Tup 3) (s b : Tup 6) (e : SeD) :
    swpO Tryz.prog T (fun _ => []) n (dsO T) (dsC0 Tryz.prog 16) (seqQ T n 17 Q) (f30 t ms kn v d) (m21 c x p s b e) =
      vif v (vif (F.apart false (fstT s, sndT s)).1 (c35 T n Q t ms kn c x p s b (setPair e (F.apart (F.apart false (fstT s, sndT s)).2 (fstT b, sndT b)).1)) (c35 T n Q t ms kn c x p s b (setPair e false))) (c35 T n Q t ms kn c x p s b e) := by
  subst hT
  kernel_rfl
def c37 (t ms : Int) (c : Cra) (x : HeD) (s b : Tup 6) (e : SeD) (v : Bool) : Prop := cutP fun d => swpO Tryz.prog T (fun _ => []) n (dsO T) (dsC0 Tryz.prog 18) (seqQ T n 19 Q) (f37 t ms v d) (m37 c x s b e)
def g37 (t ms : Int) (c : Cra) (x : HeD) (s b : Tup 6) (e : SeD) : Prop := vif (decide (c.2.2.2.1.1 = 2)) (c37 T n Q t ms c x s b e (!e.1)) (c37 T n Q t ms c x s b e false)
set_option maxRecDepth 100000 in
theorem ds_7 (hT : T = dsU F h x0 y0 hY) (t ms : Int) (kn : Bool) (d : Nat → Value) (c : Cra) (x : HeD) (p : Tup 3) (s b : Tup 6) (e : SeD) :
    swpO Tryz.prog T (fun _ => []) n (dsO T) (dsC0 Tryz.prog 17) (seqQ T n 18 Q) (f35 t ms kn d) (m21 c x p s b e) =
      vif kn (g37 T n Q t ms c x s b (setLit e (!(F.shaded false (p, fstT s)).1))) (g37 T n Q t ms c x s b e) := by
  subst hT
  kernel_rfl
def c50 (t : Int) (c : Cra) (s b : Tup 6) (e : SeD) : Prop := cutP fun d => swpO Tryz.prog T (fun _ => []) n (dsO T) (dsN Tryz.prog 20) Q (f50 t c.2.2.2.1.1 d) (m50 c s b e)
def sprV (t : Int) (c : Cra) (s b : Tup 6) (e : SeD) (g : Tup 43) (fl : Bool) : Prop :=
  vif (F.spread fl g).2 (c50 T n Q t (setGue c g) s b (setBad e true)) (c50 T n Q t (setGue c g) s b (setBad e (decide ((F.spread fl g).1 > 274877906944))))
def filV (t : Int) (c : Cra) (s b : Tup 6) (e : SeD) (r : Tup 43 × Bool) : Prop :=
  vif e.2.2.2.1 (vif e.2.2.2.2.1 (sprV F T n Q t c s b (setPass e (F.meet r.2 (r.1, s, b)).1.2.2) (F.meet r.2 (r.1, s, b)).1.1 (F.meet r.2 (r.1, s, b)).2) (sprV F T n Q t c s b e r.1 r.2)) (sprV F T n Q t c s b e r.1 r.2)
set_option maxRecDepth 100000 in
theorem ds_8 (hT : T = dsU F h x0 y0 hY) (t ms : Int) (v : Bool) (d : Nat → Value) (c : Cra) (x : HeD) (s b : Tup 6) (e : SeD) :
    swpO Tryz.prog T (fun _ => []) n (dsO T) (dsC0 Tryz.prog 18) (seqQ T n 19 Q) (f37 t ms v d) (m37 c x s b e) =
      vif v (vif e.2.1 (filV F T n Q t c s b e (F.move false (c.2.2.2.2.2.2.2.1, (r1D x).2.2, ms))) (filV F T n Q t c s b e (F.move false (c.2.2.2.2.2.2.2.1, biasT c.2.2.2.2.2.2.2.1, ms)))) (c50 T n Q t c s b e) := by
  subst hT
  kernel_rfl
end
end Go.Proofs.YtoadcnhcfodkgaaGreatDoor
