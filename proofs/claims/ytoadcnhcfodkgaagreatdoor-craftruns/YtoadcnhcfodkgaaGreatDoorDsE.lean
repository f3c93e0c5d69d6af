/-
  A step of the document's craft, whole, for the seat YtoadcnhcfodkgaaGreatDoor.
-/
import Derived.Test.YtoadcnhcfodkgaaGreatDoorDsD
namespace Go.Proofs.YtoadcnhcfodkgaaGreatDoor
open Go.RowKit

theorem cut_const {P : Prop} : cutP (fun _ => P) = P := propext ⟨fun h => h.2.2.2 (fun _ => undef), fun h => ⟨rfl, rfl, rfl, fun _ => h⟩⟩
section
variable (F : Fs)
def e60 (c : Cra) (t : Int) : Cra × ByteArray := if c.2.2.2.1.1 = 0 then (setTick c t, toldD F (setTick c t) (F.dip false c.2.2.2.2.2.2.1).1) else (setTick c t, toldD F (setTick c t) zero3)
def e58 (c : Cra) (t : Int) : Cra × ByteArray := if !decide (c.2.2.2.1.1 = 2) then e60 F (setOn (setGue c zeroG)) t else e60 F (setOn c) t
def e54 (c : Cra) (t : Int) (a : Tup 4 × Bool) : Cra × ByteArray := if a.2 then e58 F (setPlan (setGue c (F.start a.1)) (1, 0, 0, 0, 0, or4W c.2.2.2.1.2.2.2.2.2.1, ())) t else e58 F (setGue c (F.start a.1)) t
def e51 (c : Cra) (t md : Int) (s b : Tup 6) : Cra × ByteArray := if c.2.2.2.1.1 = 2 then (if !decide (md = 2) then e54 F c t (F.att false (s, b)) else e58 F c t) else e58 F c t
def e50 (c : Cra) (t : Int) (s b : Tup 6) (e : SeD) : Cra × ByteArray := e51 F (setPlan c (F.next (c.2.2.2.1, e))) t c.2.2.2.1.1 s b
def eSpr (c : Cra) (t : Int) (s b : Tup 6) (e : SeD) (g : Tup 43) (fl : Bool) : Cra × ByteArray := if (F.spread fl g).2 then e50 F (setGue c g) t s b (setBad e true) else e50 F (setGue c g) t s b (setBad e (decide ((F.spread fl g).1 > 274877906944)))
def eFil (c : Cra) (t : Int) (s b : Tup 6) (e : SeD) (r : Tup 43 × Bool) : Cra × ByteArray :=
  if e.2.2.2.1 then (if e.2.2.2.2.1 then eSpr F c t s b (setPass e (F.meet r.2 (r.1, s, b)).1.2.2) (F.meet r.2 (r.1, s, b)).1.1 (F.meet r.2 (r.1, s, b)).2 else eSpr F c t s b e r.1 r.2) else eSpr F c t s b e r.1 r.2
def e37 (c : Cra) (t ms : Int) (x : HeD) (s b : Tup 6) (e : SeD) (v : Bool) : Cra × ByteArray :=
  if v then (if e.2.1 then eFil F c t s b e (F.move false (c.2.2.2.2.2.2.2.1, (r1D x).2.2, ms)) else eFil F c t s b e (F.move false (c.2.2.2.2.2.2.2.1, biasT c.2.2.2.2.2.2.2.1, ms))) else e50 F c t s b e
def eG (c : Cra) (t ms : Int) (x : HeD) (s b : Tup 6) (e : SeD) : Cra × ByteArray := if c.2.2.2.1.1 = 2 then e37 F c t ms x s b e (!e.1) else e37 F c t ms x s b e false
def e35 (c : Cra) (t ms : Int) (kn : Bool) (x : HeD) (p : Tup 3) (s b : Tup 6) (e : SeD) : Cra × ByteArray := if kn then eG F c t ms x s b (setLit e (!(F.shaded false (p, fstT s)).1)) else eG F c t ms x s b e
def e30 (c : Cra) (t ms : Int) (kn : Bool) (x : HeD) (p : Tup 3) (s b : Tup 6) (e : SeD) (v : Bool) : Cra × ByteArray :=
  if v then (if (F.apart false (fstT s, sndT s)).1 then e35 F c t ms kn x p s b (setPair e (F.apart (F.apart false (fstT s, sndT s)).2 (fstT b, sndT b)).1) else e35 F c t ms kn x p s b (setPair e false)) else e35 F c t ms kn x p s b e
def eP (c : Cra) (t ms : Int) (kn : Bool) (x : HeD) (p : Tup 3) (s b : Tup 6) (e : SeD) : Cra × ByteArray :=
  if kn then (if x.2.2.1 then e30 F c t ms kn x p s b e x.2.2.2.1 else e30 F c t ms kn x p s b e false) else e30 F c t ms kn x p s b e false
def e27 (c : Cra) (t ms : Int) (kn : Bool) (x : HeD) (p : Tup 3) (s b : Tup 6) (e : SeD) : Cra × ByteArray :=
  if e.2.1 then (if (F.norm false (r1D x).2.2).1 ≤ 54975581388 then eP F c t ms kn x p s b (setSlow e (!(F.norm false (r1D x).2.2).2)) else eP F c t ms kn x p s b (setSlow e false)) else eP F c t ms kn x p s b e
/-- What the loop finds. -/
def lpD (was t : Int) (on : Bool) (e : SeD) : Nat → SeD × Int
  | 0 => (e, 0)
  | c + 1 => if on then (if was ≤ IntKind.i64.wrap (t - (10 + (c : Int))) then (if IntKind.i64.wrap (was + (10 + (c : Int))) = t then (setGap (lpD was t on e c).1 false, 10 + (c : Int)) else lpD was t on e c) else lpD was t on e c) else lpD was t on e c
def e17 (c : Cra) (t was : Int) (on kn : Bool) (x : HeD) (p : Tup 3) (s b : Tup 6) : Cra × ByteArray := e27 F c t (lpD was t on (see0 x) 9991).2 kn x p s b (lpD was t on (see0 x) 9991).1
def e8 (c : Cra) (t was : Int) (on : Bool) (x : HeD) : Cra × ByteArray := if c.2.2.2.2.1 then e17 F c t was on (skyR F c t).1 x (skyR F c t).2.1 (skyR F c t).2.2 (bodD x) else e17 F c t was on false x (0, 0, 0, ()) (0, 0, 0, 0, 0, 0, ()) (bodD x)
def e5 (c : Cra) (t was : Int) (on : Bool) (x : HeD) : Cra × ByteArray := if x.2.2.2.1 then e8 F (setDri c (F.bstep false (c.2.2.2.2.2.2.1, (r3D x).2.2, (r3D x).2.1)).1) t was on x else e8 F c t was on x
/-- A step of the document. -/
def stepD (c : Cra) (t : Int) (y : Cra × HeD) : Cra × ByteArray :=
  if !F.right t then (c, noBytes) else if c.1 then (if t ≤ c.2.1 then (c, noBytes) else e5 F y.1 t c.2.1 c.1 y.2) else e5 F y.1 t c.2.1 c.1 y.2
end
section
variable (F : Fs) (h : DsOk F) (T : List (Ct Tryz.prog)) (n : Nat) {x0 : Cra × Int × ByteArray} {y0 : Cra × HeD} {hY : ∀ w, GW w → Calls Tryz.prog 18 ((then' cCra (then' cI (lone' cS))).enc x0).toArray w fun e w' => e = .returned ((two' cCra cHeD).enc y0) ∧ Below w.heap.size w w'} (Post : Value → Prop)
abbrev rQ : VQ := retQ Tryz.prog (fnOf Tryz.prog 8) (fun v _ => Post v)
abbrev pQ : Cra × ByteArray → Prop := PJ (two' cCra cS) Post
theorem c60_is (hT : T = dsU F h x0 y0 hY) (t : Int) (c : Cra) : c60 T n (rQ Post) t c = pQ Post (e60 F (setOn c) t) := by
  unfold c60 e60
  simp only [ds_11 F h T n hT, cut_const]
  rw [vif_eq (K := pQ Post)]
theorem c58_is (hT : T = dsU F h x0 y0 hY) (t : Int) (c : Cra) : c58 T n (rQ Post) t c = pQ Post (e58 F c t) := by
  unfold c58 e58
  simp only [ds_10, cut_const, c60_is F h T n Post hT]
  rw [vif_b (K := pQ Post)]
theorem ent_is (hT : T = dsU F h x0 y0 hY) (t : Int) (c : Cra) (a : Tup 4 × Bool) : entV F T n (rQ Post) t c a = pQ Post (e54 F c t a) := by
  unfold entV e54
  simp only [c58_is F h T n Post hT]
  rw [vif_b (K := pQ Post)]
theorem c51_is (hT : T = dsU F h x0 y0 hY) (t md : Int) (c : Cra) (s b : Tup 6) : c51 T n (rQ Post) t md c s b = pQ Post (e51 F c t md s b) := by
  unfold c51 e51
  simp only [ds_9b F h T n (rQ Post) hT, c54, ds_9c F h T n (rQ Post) hT, cut_const, c58_is F h T n Post hT, ent_is F h T n Post hT]
  rw [vif_b (K := pQ Post), vif_eq (K := pQ Post)]
theorem c50_is (hT : T = dsU F h x0 y0 hY) (t : Int) (c : Cra) (s b : Tup 6) (e : SeD) : c50 T n (rQ Post) t c s b e = pQ Post (e50 F c t s b e) := by
  unfold c50 e50
  simp only [ds_9 F h T n (rQ Post) hT, cut_const, c51_is F h T n Post hT]
theorem spr_is (hT : T = dsU F h x0 y0 hY) (t : Int) (c : Cra) (s b : Tup 6) (e : SeD) (g : Tup 43) (fl : Bool) : sprV F T n (rQ Post) t c s b e g fl = pQ Post (eSpr F c t s b e g fl) := by
  unfold sprV eSpr
  simp only [c50_is F h T n Post hT]
  rw [vif_b (K := pQ Post)]
theorem fil_is (hT : T = dsU F h x0 y0 hY) (t : Int) (c : Cra) (s b : Tup 6) (e : SeD) (r : Tup 43 × Bool) : filV F T n (rQ Post) t c s b e r = pQ Post (eFil F c t s b e r) := by
  unfold filV eFil
  simp only [spr_is F h T n Post hT]
  rw [vif_b (K := pQ Post), vif_b (K := pQ Post)]
theorem c37_is (hT : T = dsU F h x0 y0 hY) (t ms : Int) (c : Cra) (x : HeD) (s b : Tup 6) (e : SeD) (v : Bool) : c37 T n (rQ Post) t ms c x s b e v = pQ Post (e37 F c t ms x s b e v) := by
  unfold c37 e37
  simp only [ds_8 F h T n (rQ Post) hT, cut_const, fil_is F h T n Post hT, c50_is F h T n Post hT]
  rw [vif_b (K := pQ Post), vif_b (K := pQ Post)]
theorem g37_is (hT : T = dsU F h x0 y0 hY) (t ms : Int) (c : Cra) (x : HeD) (s b : Tup 6) (e : SeD) : g37 T n (rQ Post) t ms c x s b e = pQ Post (eG F c t ms x s b e) := by
  unfold g37 eG
  simp only [c37_is F h T n Post hT]
  rw [vif_eq (K := pQ Post)]
theorem c35_is (hT : T = dsU F h x0 y0 hY) (t ms : Int) (kn : Bool) (c : Cra) (x : HeD) (p : Tup 3) (s b : Tup 6) (e : SeD) : c35 T n (rQ Post) t ms kn c x p s b e = pQ Post (e35 F c t ms kn x p s b e) := by
  unfold c35 e35
  simp only [ds_7 F h T n (rQ Post) hT, cut_const, g37_is F h T n Post hT]
  rw [vif_b (K := pQ Post)]
theorem c30_is (hT : T = dsU F h x0 y0 hY) (t ms : Int) (kn : Bool) (c : Cra) (x : HeD) (p : Tup 3) (s b : Tup 6) (e : SeD) (v : Bool) : c30 T n (rQ Post) t ms kn c x p s b e v = pQ Post (e30 F c t ms kn x p s b e v) := by
  unfold c30 e30
  simp only [ds_6 F h T n (rQ Post) hT, cut_const, c35_is F h T n Post hT]
  rw [vif_b (K := pQ Post), vif_b (K := pQ Post)]
theorem g30_is (hT : T = dsU F h x0 y0 hY) (t ms : Int) (kn : Bool) (c : Cra) (x : HeD) (p : Tup 3) (s b : Tup 6) (e : SeD) : g30 T n (rQ Post) t ms kn c x p s b e = pQ Post (eP F c t ms kn x p s b e) := by
  unfold g30 eP
  simp only [c30_is F h T n Post hT]
  rw [vif_b (K := pQ Post), vif_b (K := pQ Post)]
theorem n15_is (hT : T = dsU F h x0 y0 hY) (t was : Int) (on kn : Bool) (ms i : Int) (d : Nat → Value) (c : Cra) (x : HeD) (p : Tup 3) (s b : Tup 6) (e : SeD) :
    swpO Tryz.prog T (fun _ => []) n (dsO T) (dsN Tryz.prog 15) (rQ Post) (f21E t was on kn ms i d) (m21 c x p s b e) = pQ Post (e27 F c t ms kn x p s b e) := by
  rw [ds_5 F h T n (rQ Post) hT]
  unfold e27
  simp only [g30_is F h T n Post hT]
  rw [vif_le (K := pQ Post), vif_b (K := pQ Post)]
end
end Go.Proofs.YtoadcnhcfodkgaaGreatDoor
