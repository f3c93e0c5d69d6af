/-
A part.
A part.
A part.
A part.
A part.
A part.
-/
import Derived.Laws.ResultCell
import Derived.RegionTactic
import Derived.BigRegion
import Derived.Lib.IndexBytes
import Derived.Test.YtbophanlmkbfeaaGreatDoorHE32
import Derived.Test.YtbophanlmkbfeaaGreatDoorHE20
import Derived.Test.YtbophanlmkbfeaaGreatDoorHE15
import Derived.Test.YtbophanlmkbfeaaGreatDoorHE16
namespace Go.Proofs.YtbophanlmkbfeaaGreatDoor
open Go.RowKit
structure PlI (q : Pl) : Prop where
 c : I64 q.calm
 g : I64 q.good
 i : I64 q.miss
 l : I64 q.lost
 m0 : 0 ≤ q.mode
 m3 : q.mode ≤ 3
 f0 : 0 ≤ q.faults
 f9 : q.faults ≤ 15
theorem i64_0 : I64 0 := ⟨by decide, by decide⟩
theorem or_all : ∀ n : Fin 16, ∀ x ∈ ([1, 2, 4, 8] : List Int), 0 ≤ bits .or .i64 (n.val : Int) x ∧ bits .or .i64 (n.val : Int) x ≤ 15 := by decide +kernel
theorem or_at {f x : Int} (h0 : 0 ≤ f) (h1 : f ≤ 15) (hx : x ∈ ([1, 2, 4, 8] : List Int)) : 0 ≤ bits .or .i64 f x ∧ bits .or .i64 f x ≤ 15 := by
 obtain ⟨n, rfl⟩ : ∃ n : Nat, f = n := ⟨f.toNat, by omega⟩
 exact or_all ⟨n, by omega⟩ x hx
theorem cnt_i {n : Int} (b : Bool) : I64 (cntW n b) := by
 unfold cntW
 cases b
 ·exact i64_0
 ·simp only [if_true]
  split
  ·exact ⟨by decide, by decide⟩
  ·rw [IntKind.wrap_i64]
   exact ⟨by omega, by omega⟩
theorem PlI.go {q : Pl} (h : PlI q) (k : Int) (h0 : 0 ≤ k) (h3 : k ≤ 3) : PlI (goS k q) := ⟨i64_0, i64_0, i64_0, i64_0, h0, h3, h.f0, h.f9⟩
theorem PlI.fail {q : Pl} (h : PlI q) (x : Int) (hx : x ∈ ([1, 2, 4, 8] : List Int)) : PlI (failS x q) := by
 have u := or_at h.f0 h.f9 hx
 exact ⟨i64_0, i64_0, i64_0, i64_0, show (0 : Int) ≤ 1 by decide, show (1 : Int) ≤ 3 by decide, u.1, u.2⟩
theorem PlI.step {q : Pl} (h : PlI q) (s : Sn) : PlI (nextW q s) := by
 unfold nextW nextV
 split
 ·exact h.go 3 (by decide) (by decide)
 split
 ·unfold safeS; split
  ·exact ⟨i64_0, i64_0, i64_0, i64_0, Int.le_refl 0, show (0 : Int) ≤ 3 by decide, Int.le_refl 0, show (0 : Int) ≤ 15 by decide⟩
  ·exact h
 split
 ·unfold detW; split
  ·exact h.go 1 (by decide) (by decide)
  ·exact ⟨cnt_i _, h.g, h.i, h.l, h.m0, h.m3, h.f0, h.f9⟩
 split
 ·cases s.gap
  ·simp only [cond_false]
   unfold coaW
   cases (s.gyro && !s.slow)
   ·simp only [cond_false]
    split
    ·exact h.go 2 (by decide) (by decide)
    ·exact ⟨h.c, cnt_i _, h.i, h.l, h.m0, h.m3, h.f0, h.f9⟩
   ·exact h.go 0 (by decide) (by decide)
  ·exact h.fail 1 (by decide)
 split
 ·cases s.gap
  ·simp only [cond_false]
   unfold finW
   cases s.bad
   ·simp only [cond_false]
    split
    ·exact h.fail 2 (by decide)
    cases (s.pair && s.lit)
    ·exact ⟨h.c, h.g, h.i, cnt_i _, h.m0, h.m3, h.f0, h.f9⟩
    ·simp only [cond_true]
     split
     ·exact h.fail 8 (by decide)
     ·exact ⟨h.c, h.g, cnt_i _, cnt_i _, h.m0, h.m3, h.f0, h.f9⟩
   ·exact h.fail 4 (by decide)
  ·exact h.fail 1 (by decide)
 ·exact h.go 3 (by decide) (by decide)
abbrev cPlan (c : Cra) : Tup 6 := c.2.2.2.1
abbrev cDrif (c : Cra) : Dri := c.2.2.2.2.2.2.1
abbrev cGues (c : Cra) : Tup 43 := c.2.2.2.2.2.2.2.1
abbrev cAcks (c : Cra) : Tup 3 := c.2.2.2.2.2.2.2.2
structure AkI (a : Tup 3) : Prop where
 a0 : 0 ≤ a.1
 a1 : a.1 ≤ 255
 e0 : 0 ≤ a.2.1
 e1 : a.2.1 ≤ 255
 r0 : 0 ≤ a.2.2.1
 r1 : a.2.2.1 ≤ 65535
theorem rej_in {n : Int} (h0 : 0 ≤ n) (h1 : n ≤ 65535) : 0 ≤ rejW n ∧ rejW n ≤ 65535 := by
 unfold rejW
 split
 ·exact ⟨by decide, by decide⟩
 ·rw [IntKind.wrap_i64]
  constructor <;> omega
theorem ord_in (k : Int) (s : ByteArray) : 0 ≤ (ordR k s).1.1 ∧ (ordR k s).1.1 ≤ 255 ∧ 0 ≤ (ordR k s).2 ∧ (ordR k s).2 ≤ 255 := by
 have hb : (0 : Int) ≤ (bt s 0 : Nat) ∧ ((bt s 0 : Nat) : Int) ≤ 255 := by
  have := bt_lt s 0
  omega
 unfold ordR
 split
 ·exact ⟨by decide, by decide, by decide, by decide⟩
 split
 ·exact ⟨hb.1, hb.2, by dsimp only; decide, by dsimp only; decide⟩
 split
 ·exact ⟨hb.1, hb.2, by dsimp only; decide, by dsimp only; decide⟩
 split
 ·exact ⟨hb.1, hb.2, by dsimp only; decide, by dsimp only; decide⟩
 split
 ·exact ⟨hb.1, hb.2, by dsimp only; decide, by dsimp only; decide⟩
 split
 ·exact ⟨hb.1, hb.2, by dsimp only; decide, by dsimp only; decide⟩
 ·exact ⟨hb.1, hb.2, by dsimp only; decide, by dsimp only; decide⟩
def clrP (p : Tup 6) : Tup 6 := (p.1, p.2.1, p.2.2.1, p.2.2.2.1, p.2.2.2.2.1, 0, ())
structure Mid (c0 : Cra) (l : ByteArray) (c : Cra) : Prop where
 on : c.1 = c0.1
 tick : c.2.1 = c0.2.1
 left : c.2.2.1 = l
 plan : cPlan c = cPlan c0 ∨ cPlan c = clrP (cPlan c0)
 dri : cDrif c = cDrif c0
 gue : cGues c = cGues c0
 ak : AkI (cAcks c)
theorem Mid.rej {c0 c : Cra} {l : ByteArray} (h : Mid c0 l c) : Mid c0 l (rejC c) :=
 ⟨h.on, h.tick, h.left, h.plan, h.dri, h.gue, ⟨h.ak.a0, h.ak.a1, h.ak.e0, h.ak.e1, (rej_in h.ak.r0 h.ak.r1).1, (rej_in h.ak.r0 h.ak.r1).2⟩⟩
theorem Mid.ack {c0 c : Cra} {l : ByteArray} (h : Mid c0 l c) {q e : Int} (q0 : 0 ≤ q) (q1 : q ≤ 255) (e0 : 0 ≤ e) (e1 : e ≤ 255) : Mid c0 l (ackC c q e) :=
 ⟨h.on, h.tick, h.left, h.plan, h.dri, h.gue, ⟨q0, q1, e0, e1, h.ak.r0, h.ak.r1⟩⟩
theorem Mid.orb {c0 c : Cra} {l : ByteArray} (h : Mid c0 l c) (o : Tup 7) : Mid c0 l (orbC c o) := ⟨h.on, h.tick, h.left, h.plan, h.dri, h.gue, h.ak⟩
theorem Mid.clr {c0 c : Cra} {l : ByteArray} (h : Mid c0 l c) : Mid c0 l (clrC c) := by
 refine ⟨h.on, h.tick, h.left, .inr ?_, h.dri, h.gue, ⟨h.ak.a0, h.ak.a1, h.ak.e0, h.ak.e1, Int.le_refl 0, show (0 : Int) ≤ 65535 by decide⟩⟩
 show clrP (cPlan c) = _
 rcases h.plan with e | e <;> rw [e]
 rfl
def OrdI (x : Hea) : Prop := x.2.2.2 = 0 ∨ x.2.2.2 = 1 ∨ x.2.2.2 = 2
section
variable {F : Fs}
theorem Mid.sen {c0 c : Cra} {l : ByteArray} (h : Mid c0 l c) (x : Hea) (f : Fra) (t : Int) (ho : OrdI x) : Mid c0 l (senW F c x f t).1 ∧ OrdI (senW F c x f t).2 := by
 unfold senW
 split
 ·exact ⟨h.rej, ho⟩
 split
 ·exact ⟨h.rej, ho⟩
 split
 ·exact ⟨h, ho⟩
 split
 ·exact ⟨h, ho⟩
 split
 ·exact ⟨h, ho⟩
 ·exact ⟨h, ho⟩
theorem Mid.ord {c0 c : Cra} {l : ByteArray} (h : Mid c0 l c) (x : Hea) (f : Fra) (ho : OrdI x) : Mid c0 l (ordC c x (oreadT f)).1 ∧ OrdI (ordC c x (oreadT f)).2 := by
 obtain ⟨q0, q1, e0, e1⟩ := ord_in f.1 f.2
 have ha : Mid c0 l (ackC c (oreadT f).1.1 (oreadT f).2) := h.ack q0 q1 e0 e1
 generalize oreadT f = o at ha ⊢
 unfold ordC
 split
 ·exact ⟨ha.rej, ho⟩
 split
 ·rename_i e
  exact ⟨ha, .inr (.inl (of_decide_eq_true e))⟩
 split
 ·rename_i e
  exact ⟨ha, .inr (.inr (of_decide_eq_true e))⟩
 split
 ·exact ⟨ha.orb _, ho⟩
 split
 ·exact ⟨ha.clr, ho⟩
 ·exact ⟨ha, ho⟩
theorem Mid.hear (hF : FsIs F) {c0 : Cra} {l : ByteArray} (t : Int) (s : Cra × Hea) (f : Fra) (h : Mid c0 l s.1 ∧ OrdI s.2) : Mid c0 l (hearW F t s f).1 ∧ OrdI (hearW F t s f).2 := by
 unfold hearW
 split
 ·exact h.1.sen s.2 f t h.2
 split
 ·exact h.1.sen s.2 f t h.2
 split
 ·exact h.1.sen s.2 f t h.2
 split
 ·rw [hF.oread]
  exact h.1.ord s.2 f h.2
 ·exact ⟨h.1.rej, h.2⟩
end
theorem Mid.all {F : Fs} (hF : FsIs F) {c0 : Cra} {l : ByteArray} (t : Int) : ∀ (fs : List Fra) (s : Cra × Hea), Mid c0 l s.1 ∧ OrdI s.2 → Mid c0 l (fs.foldl (hearW F t) s).1 ∧ OrdI (fs.foldl (hearW F t) s).2
 | [], _, h => h
 | f :: fs, s, h => Mid.all hF t fs (hearW F t s f) (Mid.hear hF t s f h)
theorem take_mid {F : Fs} (hF : FsIs F) (c : Cra) (ha : AkI (cAcks c)) (t : Int) (b : ByteArray) : Mid c (restOf (c.2.2.1 ++ b).data.toList) (takeW F c t b).1 ∧ OrdI (takeW F c t b).2 := by
 unfold takeW
 refine Mid.all hF t _ _ ⟨?_, .inl rfl⟩
 have h : Mid c (restOf (c.2.2.1 ++ b).data.toList) (leftC c (restOf (c.2.2.1 ++ b).data.toList)) := ⟨rfl, rfl, rfl, .inl rfl, rfl, rfl, ha⟩
 unfold begW
 split
 ·exact h.rej
 ·exact h
theorem scanU_rest : ∀ (f : Nat) (s : List UInt8), (scanU f s).2.1.length ≤ s.length
 | 0, _ => Nat.le_refl _
 | f + 1, s => by
  unfold scanU
  split
  ·exact Nat.le_refl _
  ·have := scanU_rest f (s.drop 1)
   rw [List.length_drop] at this
   dsimp only
   omega
  ·rename_i n _
   have := scanU_rest f (s.drop (n + 5))
   rw [List.length_drop] at this
   dsimp only
   omega
theorem rest_size (L : List UInt8) : (restOf L).size ≤ L.length := scanU_rest _ L
end Go.Proofs.YtbophanlmkbfeaaGreatDoor
namespace Go.Proofs.YtbophanlmkbfeaaGreatDoor
open Go.RowKit
theorem filE_keeps (F : Fs) (s : See) (g : Tup 43) (b pass : Bool) : (filE F s g b pass).2.1 = s.1 ∧ (filE F s g b pass).2.2.2.2.2.2.2.2 = s.2.2.2.2.2.2.2 := by
 unfold filE
 split
 ·exact ⟨rfl, rfl⟩
 ·exact ⟨rfl, rfl⟩
theorem filR_keeps (F : Fs) (s : See) (x : Hea) (y : Sky) (r : Tup 43 × Bool) : (filR F s x y r).2.1 = s.1 ∧ (filR F s x y r).2.2.2.2.2.2.2.2 = s.2.2.2.2.2.2.2 := by
 unfold filR
 split
 ·split
  ·exact filE_keeps ..
  ·exact filE_keeps ..
 ·exact filE_keeps ..
theorem filW_keeps (F : Fs) (g : Tup 43) (s : See) (ms : Int) (x : Hea) (y : Sky) : (filW F g s ms x y).2.1 = s.1 ∧ (filW F g s ms x y).2.2.2.2.2.2.2.2 = s.2.2.2.2.2.2.2 := by
 unfold filW
 split
 ·exact filR_keeps ..
 ·exact filR_keeps ..
theorem decW_keeps (F : Fs) (c : Cra) (t : Int) (x : Hea) (y : Sky) : (decW F c t x y).1 = !goesW c t ∧ (decW F c t x y).2.2.2.2.2.2.2 = x.2.2.2 := by
 unfold decW
 split
 ·split
  ·exact ⟨rfl, rfl⟩
  ·exact ⟨rfl, rfl⟩
 ·split
  ·exact ⟨rfl, rfl⟩
  ·exact ⟨rfl, rfl⟩
theorem goW_is (F : Fs) (c : Cra) (x : Hea) (t : Int) : ∃ g s, goW F c x t = endW F (setGue c g) s x (skyW F c t) t ∧ s.1 = !goesW c t ∧ s.2.2.2.2.2.2.2 = x.2.2.2 := by
 have hd := decW_keeps F c t x (skyW F c t)
 unfold goW
 split
 ·split
  ·have hf := filW_keeps F c.2.2.2.2.2.2.2.1 (decW F c t x (skyW F c t)) (IntKind.i64.wrap (t - c.2.1)) x (skyW F c t)
   exact ⟨_, _, rfl, hf.1.trans hd.1, hf.2.trans hd.2⟩
  ·exact ⟨cGues c, _, rfl, hd.1, hd.2⟩
 ·exact ⟨cGues c, _, rfl, hd.1, hd.2⟩
theorem entW_is (F : Fs) (p a b : Tup 6) : (entW F p a b).1 = p ∨ (entW F p a b).1 = (1, 0, 0, 0, 0, or4W p.2.2.2.2.2.1, ()) := by
 unfold entW
 split
 ·exact .inr rfl
 ·exact .inl rfl
theorem plan_is {F : Fs} (hF : FsIs F) (c : Cra) (s : See) (x : Hea) (y : Sky) :
    (planW F c s x y).1 = nextT (cPlan c, s) ∨ ((nextT (cPlan c, s)).1 = 2 ∧ (cPlan c).1 ≠ 2 ∧ (planW F c s x y).1 = (1, 0, 0, 0, 0, or4W (nextT (cPlan c, s)).2.2.2.2.2.1, ())) := by
 unfold planW
 rw [hF.next]
 split
 ·exact .inl rfl
 rename_i h2
 split
 ·exact .inl rfl
 rename_i h3
 rcases entW_is F (nextT (cPlan c, s)) y.2.2 (dirsW x) with e | e
 ·exact .inl e
 ·refine .inr ⟨?_, ?_, e⟩
  ·simpa using h2
  ·simpa using h3
theorem plan_in {F : Fs} (hF : FsIs F) {c : Cra} (h : PlI (plOf (cPlan c))) (s : See) (x : Hea) (y : Sky) : PlI (plOf (planW F c s x y).1) := by
 have hn : PlI (plOf (nextT (cPlan c, s))) := h.step (snOf s)
 rcases plan_is hF c s x y with e | ⟨_, _, e⟩
 ·rw [e]
  exact hn
 ·rw [e]
  exact hn.fail 4 (by decide)
theorem tcS_in (r : Int × Bool) : inR (tcS r).1 (-32768) 32767 = true := by
 unfold tcS
 split
 ·assumption
 ·rfl
theorem tlC_in (q : Int × Int × Int × Int) (m : V3) : inR (tlC q m).1.1 (-32768) 32767 = true ∧ inR (tlC q m).1.2.1 (-32768) 32767 = true ∧ inR (tlC q m).1.2.2.1 (-32768) 32767 = true ∧ inR (tlC q m).1.2.2.2 (-32768) 32767 = true ∧ inR (tlC q m).2.1 (-32768) 32767 = true ∧ inR (tlC q m).2.2.1 (-32768) 32767 = true ∧ inR (tlC q m).2.2.2 (-32768) 32767 = true := by
 unfold tlC
 dsimp only
 split
 ·exact ⟨rfl, rfl, rfl, rfl, rfl, rfl, rfl⟩
 ·exact ⟨tcS_in _, tcS_in _, tcS_in _, tcS_in _, tcS_in _, tcS_in _, tcS_in _⟩
structure CInv (c : Cra) : Prop where
 t : cRight c.2.1 = true
 p : PlI (plOf (cPlan c))
 off : c.1 = false → (cPlan c).1 = 0
 ak : AkI (cAcks c)
theorem CInv.zero : CInv zeroCra := ⟨rfl, ⟨i64_0, i64_0, i64_0, i64_0, Int.le_refl 0, show (0 : Int) ≤ 3 by decide, Int.le_refl 0, show (0 : Int) ≤ 15 by decide⟩, fun _ => rfl, ⟨Int.le_refl 0, show (0 : Int) ≤ 255 by decide, Int.le_refl 0, show (0 : Int) ≤ 255 by decide, Int.le_refl 0, show (0 : Int) ≤ 65535 by decide⟩⟩
def telF (F : Fs) (c : Cra) : Tel := telT c (countsT (q4T (cGues c), coilW F c))
theorem tel_ok (F : Fs) {c : Cra} (h : CInv c) : tlOk (tlOf (telF F c)) = true := by
 obtain ⟨h1, h2, h3, h4, h5, h6, h7⟩ := tlC_in ((q4T (cGues c)).1, (q4T (cGues c)).2.1, (q4T (cGues c)).2.2.1, (q4T (cGues c)).2.2.2.1) ((coilW F c).1, (coilW F c).2.1, (coilW F c).2.2.1)
 have a := h.t
 have b : inR (cPlan c).1 0 3 = true := inR_iff.2 ⟨h.p.m0, h.p.m3⟩
 have d : inR (cPlan c).2.2.2.2.2.1 0 15 = true := inR_iff.2 ⟨h.p.f0, h.p.f9⟩
 have e : inR (cAcks c).1 0 255 = true := inR_iff.2 ⟨h.ak.a0, h.ak.a1⟩
 have f : inR (cAcks c).2.1 0 255 = true := inR_iff.2 ⟨h.ak.e0, h.ak.e1⟩
 have g : inR (cAcks c).2.2.1 0 65535 = true := inR_iff.2 ⟨h.ak.r0, h.ak.r1⟩
 show (cRight c.2.1 && inR (cPlan c).1 0 3 && inR (cPlan c).2.2.2.2.2.1 0 15 && inR (cAcks c).1 0 255 && inR (cAcks c).2.1 0 255 && inR (cAcks c).2.2.1 0 65535 && _ && _ && _ && _ && _ && _ && _) = true
 rw [a, b, d, e, f, g]
 exact (congrArg (fun z => z && _ && _ && _ && _ && _ && _) h1).trans ((congrArg (fun z => z && _ && _ && _ && _ && _) h2).trans ((congrArg (fun z => z && _ && _ && _ && _) h3).trans ((congrArg (fun z => z && _ && _ && _) h4).trans ((congrArg (fun z => z && _ && _) h5).trans ((congrArg (fun z => z && _) h6).trans h7)))))
def tailOf (T : Tl) : List UInt8 := (wrapL 32 (strOf (tlL T)).data.toList).drop 1
def bytesOf (T : Tl) : ByteArray := ⟨⟨165 :: tailOf T⟩⟩
theorem tlStr_size (T : Tl) : (strOf (tlL T)).size = 26 := rfl
theorem told_is {F : Fs} (hF : FsIs F) {c : Cra} (h : CInv c) : toldW F c = bytesOf (tlOf (telF F c)) := by
 have ok := tel_ok F h
 unfold toldW
 rw [hF.write, hF.counts, hF.wrap]
 show (if (!(writeT (telF F c)).2) = true then noBytes else (wrapT (writeT (telF F c)).1).1) = _
 have e2 : (writeT (telF F c)).2 = true := ok
 have e1 : (writeT (telF F c)).1 = (32, strOf (tlL (tlOf (telF F c)))) := by
  show tlW (tlOf (telF F c)) = _
  unfold tlW
  rw [if_pos ok]
 rw [e2, e1]
 show (wrapT (32, strOf (tlL (tlOf (telF F c))))).1 = _
 unfold wrapT
 rw [if_pos ⟨by dsimp only; decide, by dsimp only; decide, by dsimp only; rw [tlStr_size]; decide⟩]
 rfl
structure Took (F : Fs) (c : Cra) (t : Int) (b : ByteArray) (d : Cra) : Prop where
 right : cRight t = true
 late : c.1 = true → c.2.1 < t
 inv : CInv d
 tick : d.2.1 = t
 on : d.1 = true
 left : d.2.2.1 = restOf (c.2.2.1 ++ b).data.toList
 plan : ∃ p s, (p = cPlan c ∨ p = clrP (cPlan c)) ∧ (s.1 = !goesW c t) ∧ s.2.2.2.2.2.2.2 = (takeW F c t b).2.2.2.2 ∧ OrdI (takeW F c t b).2 ∧ (cPlan d = nextT (p, s) ∨ ((nextT (p, s)).1 = 2 ∧ p.1 ≠ 2 ∧ cPlan d = (1, 0, 0, 0, 0, or4W (nextT (p, s)).2.2.2.2.2.1, ())))
theorem goesW_same {c d : Cra} (h1 : d.1 = c.1) (h2 : d.2.1 = c.2.1) (t : Int) : goesW d t = goesW c t := by
 unfold goesW
 rw [h1, h2]
def stays (c : Cra) (t : Int) : Bool := !cRight t || (c.1 && decide (t ≤ c.2.1))
theorem stays_yes {F : Fs} (hF : FsIs F) {c : Cra} {t : Int} (h : stays c t = true) (b : ByteArray) : stepF F c t b = (c, noBytes) := by
 unfold stays at h
 unfold stepF stepW
 rw [hF.right]
 cases hr : cRight t
 ·rfl
 ·rw [hr] at h
  simp only [Bool.not_true, Bool.false_or, Bool.and_eq_true] at h
  simp only [Bool.not_true, Bool.false_eq_true, if_false]
  rw [if_pos h.1, if_pos h.2]
theorem stays_no {F : Fs} (hF : FsIs F) {c : Cra} {t : Int} (h : stays c t = false) (b : ByteArray) : stepF F c t b = stepR F (fun _ => takeW F c t b) c t b ∧ cRight t = true ∧ (c.1 = true → c.2.1 < t) := by
 unfold stays at h
 unfold stepF stepW
 rw [hF.right]
 cases hr : cRight t
 ·rw [hr] at h; cases h
 ·rw [hr] at h
  simp only [Bool.not_true, Bool.false_or] at h
  simp only [Bool.not_true, Bool.false_eq_true, if_false]
  cases hc : c.1
  ·exact ⟨rfl, by trivial, fun h => by cases h⟩
  ·rw [hc] at h
   simp only [Bool.true_and] at h
   simp only [if_true]
   rw [h]
   exact ⟨rfl, by trivial, fun _ => by have := of_decide_eq_false h; omega⟩
theorem took_of {F : Fs} (hF : FsIs F) {c : Cra} (hI : CInv c) (t : Int) (b : ByteArray) (hr : cRight t = true) (hl : c.1 = true → c.2.1 < t) :
    Took F c t b (stepR F (fun _ => takeW F c t b) c t b).1 ∧ (stepR F (fun _ => takeW F c t b) c t b).2 = bytesOf (tlOf (telF F (stepR F (fun _ => takeW F c t b) c t b).1)) := by
 obtain ⟨hm, ho⟩ := take_mid hF c hI.ak t b
 unfold stepR
 dsimp only
 have hpO : ∀ x, x = (takeW F c t b).2 → x.2.2.2 = (takeW F c t b).2.2.2.2 ∧ OrdI (takeW F c t b).2 := fun x e => by rw [e]; exact ⟨rfl, ho⟩
 generalize hT : takeW F c t b = T at hm ho ⊢
 obtain ⟨c1, x⟩ := T
 dsimp only at hm ho ⊢
 generalize driftW F c1.2.2.2.2.2.2.1 x = dr
 obtain ⟨g, s, e, hg, hs⟩ := goW_is F (setDri c1 dr) x t
 rw [e]
 generalize skyW F (setDri c1 dr) t = y
 have hp : PlI (plOf (cPlan (setGue (setDri c1 dr) g))) := by
  show PlI (plOf (cPlan c1))
  rcases hm.plan with e | e <;> rw [e]
  ·exact hI.p
  ·exact ⟨hI.p.c, hI.p.g, hI.p.i, hI.p.l, hI.p.m0, hI.p.m3, Int.le_refl 0, show (0 : Int) ≤ 15 by decide⟩
 have hq := plan_in hF hp s x y
 have hpl := plan_is hF (setGue (setDri c1 dr) g) s x y
 unfold endW
 dsimp only
 generalize planW F (setGue (setDri c1 dr) g) s x y = P at hq hpl ⊢
 have hi : CInv (setEnd (setGue (setDri c1 dr) g) t P.1 P.2) := ⟨hr, hq, fun h => Bool.noConfusion h, hm.ak⟩
 have hpx := hpO x (by rw [hT])
 refine ⟨⟨hr, hl, hi, rfl, rfl, hm.left, cPlan c1, s, hm.plan, ?_, hs.trans hpx.1, hpx.2, hpl⟩, told_is hF hi⟩
 rw [hg]
 exact congrArg _ (goesW_same hm.on hm.tick t)
theorem took {F : Fs} (hF : FsIs F) {c : Cra} (hI : CInv c) {t : Int} (b : ByteArray) (h : stays c t = false) :
    Took F c t b (stepF F c t b).1 ∧ (stepF F c t b).2 = bytesOf (tlOf (telF F (stepF F c t b).1)) := by
 obtain ⟨e, hr, hl⟩ := stays_no hF h b
 rw [e]
 exact took_of hF hI t b hr hl
end Go.Proofs.YtbophanlmkbfeaaGreatDoor
namespace Go.Proofs.YtbophanlmkbfeaaGreatDoor
open Go.RowKit
theorem cnt_true {n k : Int} {b : Bool} (h : k ≤ cntW n b) (hk : 0 < k) : b = true := by
 cases b
 ·exact absurd h (by show ¬ k ≤ 0; omega)
 ·rfl
theorem next_fine {p : Tup 6} {s : See} (h : (nextT (p, s)).1 = 2) : (p.1 = 2 ∧ s.1 = false ∧ s.2.2.2.2.2.1 = false) ∨ (p.1 = 1 ∧ s.2.1 = true ∧ s.2.2.2.1 = true ∧ s.2.2.2.2.1 = true) := by
 have h : (nextW (plOf p) (snOf s)).mode = 2 := h
 show ((plOf p).mode = 2 ∧ (snOf s).gap = false ∧ (snOf s).bad = false) ∨ ((plOf p).mode = 1 ∧ (snOf s).gyro = true ∧ (snOf s).pair = true ∧ (snOf s).lit = true)
 generalize plOf p = q at h ⊢
 generalize snOf s = z at h ⊢
 unfold nextW nextV at h
 split at h
 ·exact absurd h (by show ¬ (3 : Int) = 2; decide)
 split at h
 ·rename_i h3
  unfold safeS at h
  split at h
  ·exact absurd h (by show ¬ (0 : Int) = 2; decide)
  ·omega
 split at h
 ·rename_i h0
  unfold detW at h
  split at h
  ·exact absurd h (by show ¬ (1 : Int) = 2; decide)
  ·have h : q.mode = 2 := h
   omega
 split at h
 ·rename_i h1
  cases hg : z.gap
  ·rw [hg] at h
   simp only [cond_false] at h
   unfold coaW at h
   cases hs : (z.gyro && !z.slow)
   ·rw [hs] at h
    simp only [cond_false] at h
    split at h
    ·rename_i h2
     have := cnt_true h2 (by decide)
     simp only [Bool.and_eq_true] at this
     exact .inr ⟨h1, this.1.1, this.1.2, this.2⟩
    ·have h : q.mode = 2 := h
     omega
   ·rw [hs] at h
    exact absurd h (by show ¬ (0 : Int) = 2; decide)
  ·rw [hg] at h
   exact absurd h (by show ¬ (1 : Int) = 2; decide)
 split at h
 ·rename_i h2
  cases hg : z.gap
  ·rw [hg] at h
   simp only [cond_false] at h
   unfold finW at h
   cases hb : z.bad
   ·exact .inl ⟨h2, rfl, rfl⟩
   ·rw [hb] at h
    exact absurd h (by show ¬ (1 : Int) = 2; decide)
  ·rw [hg] at h
   exact absurd h (by show ¬ (1 : Int) = 2; decide)
 ·exact absurd h (by show ¬ (3 : Int) = 2; decide)
structure GueI (g : Tup 43) : Prop where
 one : nqT g
 sum : (sprT false g).2 = false
 few : (sprT false g).1 ≤ 274877906944
theorem spr_bad {b : Bool} {g : Tup 43} (h : (sprT b g).2 = false) : b = false := by
 cases b
 ·rfl
 ·exact Bool.noConfusion (show true = false from h)
theorem filE_gue {F : Fs} (hF : FsNq F) {s : See} {g : Tup 43} {b pass : Bool} (h : (filE F s g b pass).2.2.2.2.2.2.1 = false) : b = false ∧ (filE F s g b pass).1 = g ∧ (sprT b g).2 = false ∧ (sprT b g).1 ≤ 274877906944 := by
 unfold filE at h ⊢
 rw [hF.spread] at h ⊢
 cases hs : (sprT b g).2
 ·rw [hs] at h
  simp only [Bool.false_eq_true, if_false] at h ⊢
  have h : decide ((sprT b g).1 > 274877906944) = false := h
  exact ⟨spr_bad hs, by trivial, by trivial, by have := of_decide_eq_false h; omega⟩
 ·rw [hs] at h
  exact absurd h (by simp)
theorem filR_gue {F : Fs} (hF : FsNq F) {s : See} {x : Hea} {y : Sky} {r : Tup 43 × Bool} (hr : r.2 = false → nqT r.1) (h : (filR F s x y r).2.2.2.2.2.2.1 = false) : GueI (filR F s x y r).1 := by
 unfold filR at h ⊢
 have own : ∀ pass, (filE F s r.1 r.2 pass).2.2.2.2.2.2.1 = false → GueI (filE F s r.1 r.2 pass).1 := by
  intro pass h
  obtain ⟨h1, h2, h3, h4⟩ := filE_gue hF h
  rw [h2]
  rw [h1] at h3 h4
  exact ⟨hr h1, h3, h4⟩
 split
 ·rename_i c1
  rw [if_pos c1] at h
  split
  ·rename_i c2
   rw [if_pos c2] at h
   obtain ⟨h1, h2, h3, h4⟩ := filE_gue hF h
   obtain ⟨k1, k2⟩ := hF.meet _ _ h1
   rw [h2]
   rw [h1] at h3 h4
   exact ⟨k2 (hr k1), h3, h4⟩
  ·rename_i c2
   rw [if_neg c2] at h
   exact own _ h
 ·rename_i c1
  rw [if_neg c1] at h
  exact own _ h
theorem filW_gue {F : Fs} (hF : FsNq F) {g : Tup 43} {s : See} {ms : Int} {x : Hea} {y : Sky} (h : (filW F g s ms x y).2.2.2.2.2.2.1 = false) : GueI (filW F g s ms x y).1 := by
 unfold filW at h ⊢
 split
 ·rename_i c1
  rw [if_pos c1] at h
  exact filR_gue hF (hF.move _ _) h
 ·rename_i c1
  rw [if_neg c1] at h
  exact filR_gue hF (hF.move _ _) h
theorem start_spr (q : Tup 4) : sprT false (startT q) = (51539607552, false) := by kernel_rfl
theorem start_gue {q : Tup 4} (h : nq4 q) : GueI (startT q) := ⟨h, by rw [start_spr], by rw [start_spr]; show (51539607552 : Int) ≤ _; decide⟩
structure FinI (c : Cra) : Prop where
 fine : (cPlan c).1 = 2 → GueI (cGues c)
 none : (cPlan c).1 ≠ 2 → cGues c = zeroG
theorem FinI.zero : FinI zeroCra := ⟨fun h => absurd h (by decide), fun _ => rfl⟩
theorem plan_fine {F : Fs} (hF : FsNq F) {c : Cra} {s : See} {x : Hea} {y : Sky} (h : (cPlan c).1 = 2 → s.1 = false → s.2.2.2.2.2.1 = false → GueI (cGues c)) :
    ((planW F c s x y).1.1 = 2 → GueI (planW F c s x y).2) ∧ ((planW F c s x y).1.1 ≠ 2 → (planW F c s x y).2 = zeroG) := by
 unfold planW
 rw [hF.is.next]
 by_cases h2 : (nextT (cPlan c, s)).1 = 2
 ·rw [if_neg (by rw [decide_eq_true h2]; decide)]
  by_cases h3 : (cPlan c).1 = 2
  ·rw [if_pos (decide_eq_true h3)]
   refine ⟨fun _ => ?_, fun e => absurd h2 e⟩
   rcases next_fine h2 with ⟨_, k1, k2⟩ | ⟨k, _⟩
   ·exact h h3 k1 k2
   ·have : (cPlan c).1 = 1 := k
    omega
  ·rw [if_neg (by rw [decide_eq_false h3]; decide)]
   unfold entW
   cases ha : (F.att false (y.2.2, dirsW x)).2
   ·simp only [Bool.false_eq_true, if_false]
    refine ⟨fun _ => ?_, fun e => absurd h2 e⟩
    rw [hF.start]
    exact start_gue (hF.att _ _ ha)
   ·simp only [if_true]
    exact ⟨fun e => absurd e (by decide), fun _ => by trivial⟩
 ·rw [if_pos (by rw [decide_eq_false h2]; rfl)]
  exact ⟨fun e => absurd e h2, fun _ => rfl⟩
theorem step_fine {F : Fs} (hF : FsNq F) {c : Cra} {t : Int} (b : ByteArray) (hs : stays c t = false) : FinI (stepF F c t b).1 := by
 obtain ⟨e, _, _⟩ := stays_no hF.is hs b
 rw [e]
 unfold stepR
 generalize takeW F c t b = T
 obtain ⟨c1, x⟩ := T
 dsimp only
 generalize setDri c1 (driftW F c1.2.2.2.2.2.2.1 x) = c2
 unfold goW
 split
 ·rename_i h2
  split
  ·unfold endW
   have := plan_fine hF (c := setGue c2 (filW F c2.2.2.2.2.2.2.2.1 (decW F c2 t x (skyW F c2 t)) (IntKind.i64.wrap (t - c2.2.1)) x (skyW F c2 t)).1) (s := (filW F c2.2.2.2.2.2.2.2.1 (decW F c2 t x (skyW F c2 t)) (IntKind.i64.wrap (t - c2.2.1)) x (skyW F c2 t)).2) (x := x) (y := skyW F c2 t) (fun _ _ k => filW_gue hF k)
   exact ⟨this.1, this.2⟩
  ·rename_i hg
   unfold endW
   have := plan_fine hF (c := c2) (s := decW F c2 t x (skyW F c2 t)) (x := x) (y := skyW F c2 t) (fun _ k _ => absurd (by rw [k]; rfl) hg)
   exact ⟨this.1, this.2⟩
 ·rename_i h2
  unfold endW
  have := plan_fine hF (c := c2) (s := decW F c2 t x (skyW F c2 t)) (x := x) (y := skyW F c2 t) (fun k _ _ => absurd (decide_eq_true k) h2)
  exact ⟨this.1, this.2⟩
end Go.Proofs.YtbophanlmkbfeaaGreatDoor
namespace Go.Proofs.YtbophanlmkbfeaaGreatDoor
open Go.RowKit
theorem kept_two {w w1 : World} {A B : Array Value} {t u : TypeId} (h : Below ((w.alloc (.cells A t)).alloc (.cells B u)).drew.heap.size ((w.alloc (.cells A t)).alloc (.cells B u)).drew w1) :
    Below (w.alloc (.cells A t)).heap.size (w.alloc (.cells A t)) w1 ∧ ∀ j, w1.cell? ⟨w.heap.size + 1, j, none⟩ = B[j]? := by
 have h' : Below ((w.alloc (.cells A t)).alloc (.cells B u)).heap.size ((w.alloc (.cells A t)).alloc (.cells B u)) w1 := ⟨h.os, h.tape, h.output, h.size, h.block⟩
 refine ⟨((Below.refl _ _).alloc (Nat.le_refl _) _).trans (h'.mono (by simp)), fun j => ?_⟩
 rw [h'.cell (p := ⟨w.heap.size + 1, j, none⟩) (by simp)]
 exact cell_top _ _ _ _ j (by simp)
theorem str_ne {s t : ByteArray} (h : t.data.toList ≠ s.data.toList) : (t.toList == s.toList) = false := by
 rw [Lib.toList_data, Lib.toList_data]
 simpa using h
def ropenS (s : ByteArray) : Int × ByteArray × Bool :=
 if 5 ≤ s.size ∧ s.size ≤ 69 ∧ wrapL (s.data.toList.getD 1 0) (s.extract 3 (s.size - 2)).data.toList = s.data.toList then (((s.data.toList.getD 1 0).toNat : Int), s.extract 3 (s.size - 2), true) else (0, ⟨#[]⟩, false)
theorem ropenS_yes {t : List UInt8} {x d : ByteArray} {k n : Nat} (h : look t = some (n + 1)) (hx : x.data.toList = t.take (n + 5)) (hd : d.data.toList = (t.drop 3).take n) (hk : (t.getD 1 0).toNat = k) : ropenS x = ((k : Int), d, true) := by
 obtain ⟨_, _, h64, h5, _⟩ := look_parts h
 have hs : x.size = n + 5 := by
  rw [Lib.size_eq, hx, List.length_take]
  omega
 have e1 : x.data.toList.getD 1 0 = t.getD 1 0 := by
  rw [hx]
  simp [List.getD_eq_getElem?_getD]
 have e2 : (x.extract 3 (x.size - 2)).data.toList = (t.drop 3).take n := by
  rw [extract_list, hx, List.drop_take, List.take_take, hs]
  congr 1
  omega
 unfold ropenS
 rw [if_pos ⟨by omega, by omega, by rw [e1, e2, hx, wrap_look h]⟩, e1, hk]
 have e3 : x.extract 3 (x.size - 2) = d := ByteArray.ext (Array.toList_inj.1 (by rw [e2, hd]))
 rw [e3]
theorem ropenS_no {t : List UInt8} {x : ByteArray} {n : Nat} (h : look t = some 0) (hx : x.data.toList = t.take (n + 5)) (h5 : n + 5 ≤ t.length) : ropenS x = (0, ⟨#[]⟩, false) := by
 have hs : x.size = n + 5 := by
  rw [Lib.size_eq, hx, List.length_take]
  omega
 unfold ropenS
 rw [if_neg]
 rintro ⟨_, h69, hw⟩
 have e : t = wrapL (x.data.toList.getD 1 0) (x.extract 3 (x.size - 2)).data.toList ++ t.drop (n + 5) := by rw [hw, hx, List.take_append_drop]
 have hl := look_wrap (x.data.toList.getD 1 0) (x.extract 3 (x.size - 2)).data.toList (t.drop (n + 5)) (by rw [← Lib.size_eq, ByteArray.size_extract]; omega)
 rw [← e, h] at hl
 cases hl
set_option maxHeartbeats 1000000 in
set_option maxRecDepth 100000 in
theorem ropen_any (s : ByteArray) (w : World) (hmax : s.size ≤ 5000) :
    Calls Tryz.prog 10 #[.string s] w fun e w' => e = .returned (.tuple #[.agg #[.int .i64 (ropenS s).1, .string (ropenS s).2.1], .bool (ropenS s).2.2]) ∧ Below w.heap.size w w' := by
 by_cases h5 : s.size < 5
 ·have e : ropenS s = (0, ⟨#[]⟩, false) := by unfold ropenS; rw [if_neg (by omega)]
  rw [e]
  go_enter Tryz.func10, Tryz.ntmps10
  go_wp2
  refine bodyPost_ret (v := .tuple #[.agg #[.int .i64 0, .string ⟨#[]⟩], .bool false]) (by simp [results_cell_tmp Tryz.results10, asAddr, go_sem]) rfl ⟨rfl, ?_⟩
  exact (Below.refl _ w).alloc (Nat.le_refl _) _
 have l1 : 1 < s.size := by omega
 obtain ⟨k, hk⟩ : ∃ k, (s[1]'l1) = k := ⟨_, rfl⟩
 have hsl : ∀ W : World, (Instr.slice 9 (.string s) (some (.int .i64 3)) (some (.int .i64 ((s.size : Int) - 2))) none).run Tryz.prog W = .ok (.string (s.extract 3 (s.size - 2))) W := fun W => by
  rw [run_slice_string W 9 s .i64 .i64 3 ((s.size : Int) - 2) Tryz.underlying9 (by omega) (by omega) (by omega), show ((s.size : Int) - 2).toNat = s.size - 2 by omega]
  rfl
 obtain ⟨d, hd⟩ : ∃ d : ByteArray, d = s.extract 3 (s.size - 2) := ⟨_, rfl⟩
 rw [← hd] at hsl
 have hds : d.size = s.size - 5 := by rw [hd, ByteArray.size_extract]; omega
 have HD : Hid (d = s.extract 3 (s.size - 2)) := hd
 have hw2 : IntKind.i64.wrap ((s.size : Int) - 2) = (s.size : Int) - 2 := by rw [IntKind.wrap_i64]; omega
 obtain ⟨n, hn⟩ : ∃ n, k.toNat = n := ⟨_, rfl⟩
 have hk8 : n < 256 := by rw [← hn]; exact k.toNat_lt
 have hv : IntKind.i64.wrap (n : Int) = (n : Int) := by rw [IntKind.wrap_i64]; omega
 have HO : Hid (ropenS s = if s.size ≤ 69 ∧ wrapL k d.data.toList = s.data.toList then ((n : Int), d, true) else (0, ⟨#[]⟩, false)) := by
  show _ = _
  unfold ropenS
  rw [getD_of l1, hk, ← hd, hn]
  by_cases c : s.size ≤ 69 ∧ wrapL k d.data.toList = s.data.toList
  ·rw [if_pos c, if_pos ⟨by omega, c⟩]
  ·rw [if_neg c, if_neg (fun h => c h.2)]
 clear hd
 by_cases h69 : s.size ≤ 69
 ·have hw := fun W => rwrap_yes k d W (by omega)
  rw [hn] at hw
  by_cases c : wrapL k d.data.toList = s.data.toList
  ·rw [HO.out, if_pos ⟨h69, c⟩]
   have HC : Hid (wrapL k d.data.toList = s.data.toList) := c
   clear c
   go_enter Tryz.func10, Tryz.ntmps10
   go_wp2
   go_region
   go_wp2_with (go_at_call 30; refine (hw _).mono ?_; rintro e w1 ⟨t, rfl, ht, hb1⟩; obtain rfl : t = s := ByteArray.ext (Array.toList_inj.1 (ht.trans HC.out)); obtain ⟨hb2, kc⟩ := kept_two hb1; have k0 := cell_kept0 hb2; have k1 := cell_kept1 hb2; have f0 := free_kept0 hb2; have f1 := free_kept1 hb2; have k2 : w1.cell? ⟨w.heap.size + 1, 0, none⟩ = some (.int .i64 (n : Int)) := kc 0; have k3 : w1.cell? ⟨w.heap.size + 1, 1, none⟩ = some (.string d) := kc 1; clear kc ht)
   refine bodyPost_ret (v := .tuple #[.agg #[.int .i64 (n : Int), .string d], .bool true]) (by simp [results_cell_tmp Tryz.results10, asAddr, go_sem, k0, k1]) rfl ⟨rfl, ?_⟩
   exact ((below_kept hb2).setCell (Nat.le_refl _) _).setCell (Nat.le_refl _) _
  ·rw [HO.out, if_neg (fun h => c h.2)]
   have HC : Hid (wrapL k d.data.toList ≠ s.data.toList) := c
   clear c
   go_enter Tryz.func10, Tryz.ntmps10
   go_wp2
   go_region
   go_wp2_with (go_at_call 30; refine (hw _).mono ?_; rintro e w1 ⟨t, rfl, ht, hb1⟩; have hne := str_ne (t := t) (s := s) (by rw [ht]; exact HC.out); obtain ⟨hb2, kc⟩ := kept_two hb1; have k0 := cell_kept0 hb2; have k1 := cell_kept1 hb2; have f0 := free_kept0 hb2; have f1 := free_kept1 hb2; clear kc ht)
   refine bodyPost_ret (v := .tuple #[.agg #[.int .i64 0, .string ⟨#[]⟩], .bool false]) (by simp [results_cell_tmp Tryz.results10, asAddr, go_sem, k0, k1]) rfl ⟨rfl, ?_⟩
   exact ((below_kept hb2).setCell (Nat.le_refl _) _).setCell (Nat.le_refl _) _
 ·rw [HO.out, if_neg (fun h => h69 h.1)]
  have hw := fun W => rwrap_no n d W (by omega)
  go_enter Tryz.func10, Tryz.ntmps10
  go_wp2
  go_region
  go_wp2_with (go_at_call 30; refine (hw _).mono ?_; rintro e w1 ⟨rfl, hb1⟩; obtain ⟨hb2, kc⟩ := kept_two hb1; have k0 := cell_kept0 hb2; have k1 := cell_kept1 hb2; have f0 := free_kept0 hb2; have f1 := free_kept1 hb2; clear kc)
  refine bodyPost_ret (v := .tuple #[.agg #[.int .i64 0, .string ⟨#[]⟩], .bool false]) (by simp [results_cell_tmp Tryz.results10, asAddr, go_sem, k0, k1]) rfl ⟨rfl, ?_⟩
  exact ((below_kept hb2).setCell (Nat.le_refl _) _).setCell (Nat.le_refl _) _
end Go.Proofs.YtbophanlmkbfeaaGreatDoor
namespace Go.Proofs.YtbophanlmkbfeaaGreatDoor
open Go.RowKit
set_option maxHeartbeats 4000000 in
set_option maxRecDepth 100000 in
theorem rscan_any (s : ByteArray) (w : World) (hs : s.size ≤ 5000) :
    Calls Tryz.prog 17 #[.string s] w fun e w' => ScanEnd s.data.toList w e w' := by
 obtain ⟨i0, hi, hz0, hz1, hz2⟩ := info_parts frame_info
 obtain ⟨L, hLe⟩ : ∃ L, s.data.toList = L := ⟨_, rfl⟩
 have hL : L.length = s.size := by rw [← hLe]; rfl
 rw [hLe]
 have HS : Hid (s.data.toList = L) := hLe
 clear hLe
 go_enter Tryz.func17, Tryz.ntmps17
 go_wp2
 go_loopw [5, 6, 7] (fun v ov iv wr => ∃ (i : Nat) (acc : List (UInt8 × List UInt8)) (o : Nat), i ≤ s.size ∧ iv = .int .i64 i ∧ ov = .int .i64 o ∧ SoFar L acc (L.drop i) o ∧ Frames w.heap.size wr v acc ∧ Below w.heap.size w wr)
  (fun _ _ iv _ => s.size - (intOf iv).toNat)
 case atStart => exact ⟨0, [], 0, by omega, rfl, rfl, SoFar.start L, World.ownsRow_nil _ _ _ _, Below.refl _ _⟩
 case round =>
  obtain ⟨i, acc, o, his, rfl, rfl, hf, hown, hnx⟩ := hrel
  have hbd := hf.2
  have hdl : (L.drop i).length = s.size - i := by rw [List.length_drop, hL]
  have HF : Hid (SoFar L acc (L.drop i) o) := hf
  have HO : Hid (Frames w.heap.size wr u5 acc) := hown
  clear hf hown
  by_cases hlt : i < s.size
  case neg =>
   obtain rfl : i = s.size := by omega
   have HE : Hid (scanL L = (acc, [], o)) := by
    have := HF.out.stop (t := L.drop s.size) (by rw [List.drop_of_length_le (by omega)]; exact look_nil)
    rwa [List.drop_of_length_le (by omega)] at this
   go_wp2
   go_ret3
   exact ⟨_, ⟨#[]⟩, by rw [HE.out]; rfl, by rw [HE.out], by rw [HE.out]; exact HO.out, hnx⟩
  obtain ⟨b0, hb0⟩ : ∃ b, (s[i]'hlt).toNat = b := ⟨_, rfl⟩
  have G0 : Hid (((L.drop i).getD 0 0).toNat = b0) := by
   show _ = _
   rw [← hb0, ← getD_of hlt, HS.out]
   simp [List.getD_eq_getElem?_getD]
  by_cases c0 : b0 = 165
  case neg =>
   have HE : Hid (SoFar L acc (L.drop (i + 1)) (o + 1)) := by
    have := HF.out.skip (look0 (by omega) (by rw [G0.out]; exact c0))
    rwa [List.drop_drop] at this
   have c0' : ((b0 : Int) != 165) = true := by simp; omega
   go_wp2
   go_roundw
   case rel => exact ⟨i + 1, acc, o + 1, by omega, by go_num, by go_num, HE.out, HO.out, hnx⟩
   case measure => simp [intOf]; omega
  rw [c0] at G0 hb0
  clear c0 b0
  have hsl : ∀ W : World, (Instr.slice 9 (.string s) (some (.int .i64 (i : Int))) none none).run Tryz.prog W = .ok (.string (s.extract i s.size)) W := fun W => by
   rw [run_slice_string_from_if W 9 s .i64 (i : Int) Tryz.underlying9, if_pos (by omega)]
   rfl
  obtain ⟨z, hz⟩ : ∃ z : ByteArray, z = s.extract i s.size := ⟨_, rfl⟩
  rw [← hz] at hsl
  have HZ : Hid (z.data.toList = L.drop i) := by show _ = _; rw [hz, ← HS.out]; exact Lib.extract_to_end s i
  clear hz
  have c165 : ((165 : Int) != 165) = false := rfl
  by_cases h3 : s.size - i < 3
  case pos =>
   have HE : Hid (scanL L = (acc, L.drop i, o)) := HF.out.stop (look1 (by omega) G0.out (by omega))
   go_wp2
   go_quiet (fail)
   go_wp2
   go_ret3
   exact ⟨_, z, by rw [HE.out]; rfl, by rw [HE.out]; exact HZ.out, by rw [HE.out]; exact HO.out.below below_alike, below_drewN hnx _⟩
  have l2 : i + 2 < s.size := by omega
  obtain ⟨n, hn⟩ : ∃ b, (s[i + 2]'l2).toNat = b := ⟨_, rfl⟩
  have hn8 : n < 256 := by rw [← hn]; exact (s[i + 2]'l2).toNat_lt
  have G2 : Hid (((L.drop i).getD 2 0).toNat = n) := by
   show _ = _
   rw [← hn, ← getD_of l2, HS.out]
   simp [List.getD_eq_getElem?_getD]
  have hi2 : ∀ W : World, (Instr.index 9 (.string s) (.int .i64 ((i : Int) + 2))).run Tryz.prog W = .ok (.int .u8 (n : Nat)) W := fun W => by
   rw [run_index_string W 9 s .i64 ((i : Int) + 2) Tryz.underlying9, dif_pos (by omega)]
   have : ((i : Int) + 2).toNat = i + 2 := by omega
   simp only [this, hn]
  clear hn
  by_cases h64 : 64 < n
  case pos =>
   have HE : Hid (SoFar L acc (L.drop (i + 1)) (o + 1)) := by
    have := HF.out.skip (look2 G0.out (by omega) G2.out h64)
    rwa [List.drop_drop] at this
   go_wp2
   go_roundw
   case rel => exact ⟨i + 1, acc, o + 1, by omega, by go_num, by go_num, HE.out, HO.out, hnx⟩
   case measure => simp [intOf]; omega
  by_cases h5 : s.size - i < n + 5
  case pos =>
   have HE : Hid (scanL L = (acc, L.drop i, o)) := HF.out.stop (look3 G0.out (by omega) G2.out (by omega) (by omega))
   go_wp2
   go_quiet (fail)
   go_wp2
   go_ret3
   exact ⟨_, z, by rw [HE.out]; rfl, by rw [HE.out]; exact HZ.out, by rw [HE.out]; exact HO.out.below below_alike, below_drewN hnx _⟩
  have hsx : ∀ W : World, (Instr.slice 9 (.string s) (some (.int .i64 (i : Int))) (some (.int .i64 ((i : Int) + (n : Int) + 5))) none).run Tryz.prog W = .ok (.string (s.extract i (i + n + 5))) W := fun W => by
   rw [run_slice_string W 9 s .i64 .i64 (i : Int) ((i : Int) + (n : Int) + 5) Tryz.underlying9 (by omega) (by omega) (by omega), show ((i : Int) + (n : Int) + 5).toNat = i + n + 5 by omega]
   rfl
  obtain ⟨x, hx⟩ : ∃ z : ByteArray, z = s.extract i (i + n + 5) := ⟨_, rfl⟩
  rw [← hx] at hsx
  have HX : Hid (x.data.toList = (L.drop i).take (n + 5)) := by show _ = _; rw [hx, extract_list, HS.out]; congr 1; omega
  have hxs : x.size = n + 5 := by rw [hx, ByteArray.size_extract]; omega
  clear hx
  have hop := fun W => ropen_any x W (by omega)
  by_cases hq : sumU (((L.drop i).drop 1).take (n + 2)) = ((L.drop i).getD (n + 3) 0).toNat * 256 + ((L.drop i).getD (n + 4) 0).toNat
  case neg =>
   have hlo := look4 G0.out G2.out (by omega) (by omega) hq
   have HE : Hid (SoFar L acc (L.drop (i + 1)) (o + 1)) := by
    have := HF.out.skip hlo
    rwa [List.drop_drop] at this
   rw [ropenS_no hlo HX.out (by omega)] at hop
   clear hlo hq
   go_wp2_with (go_at_call 10; refine (hop _).mono ?_; rintro e w1 ⟨rfl, hb1⟩)
   have hbw := (hnx.trans (hb1.mono hnx.size)).alloc (Nat.le_trans hnx.size hb1.size) (.cells #[.int .i64 0, .string ⟨#[]⟩] 49)
   go_roundw
   case rel => exact ⟨i + 1, acc, o + 1, by omega, by go_num, by go_num, HE.out, (HO.out.below hb1).alloc _, hbw⟩
   case measure => simp [intOf]; omega
  have hlo := look5 G0.out G2.out (by omega) (by omega) hq
  obtain ⟨k, hk⟩ : ∃ k, ((L.drop i).getD 1 0).toNat = k := ⟨_, rfl⟩
  obtain ⟨d, hd⟩ : ∃ d : ByteArray, d = ⟨(((L.drop i).drop 3).take n).toArray⟩ := ⟨_, rfl⟩
  rw [ropenS_yes hlo HX.out (d := d) (by rw [hd]) hk] at hop
  have HE : Hid (SoFar L (acc ++ [((L.drop i).getD 1 0, ((L.drop i).drop 3).take n)]) (L.drop (i + n + 5)) o) := by
   have := HF.out.frame hlo
   rwa [show (L.drop i).drop (n + 5) = L.drop (i + n + 5) by rw [List.drop_drop, Nat.add_assoc]] at this
  have HN : Hid (cellsOf (acc ++ [((L.drop i).getD 1 0, ((L.drop i).drop 3).take n)]) = cellsOf acc ++ [.int .i64 (k : Nat), .string d]) := by
   show _ = _
   rw [cellsOf_append, ← hk, hd]
   rfl
  have HLen : Hid ((acc ++ [((L.drop i).getD 1 0, ((L.drop i).drop 3).take n)]).length = acc.length + 1) := by show _ = _; simp
  clear hlo hq hd hk
  generalize acc ++ [((L.drop i).getD 1 0, ((L.drop i).drop 3).take n)] = acc' at HE HN HLen
  go_wp2_with (first
   | (go_at_call 10; refine (hop _).mono ?_; rintro e w2 ⟨rfl, hb2⟩)
   | (at_builtin; refine wpList_append_own _ rfl (.tmp 73) (.tmp 75) 64 rfl w.heap.size 49 i0 (.agg #[.int .i64 0, .string ⟨#[]⟩]) 2 24 Tryz.underlying64 hi hz0 hz1 hz2 rfl (by decide) _ _ _ rfl (((HO.out.below hb2).alloc _).alloc _) ⟨w2.heap.size + 1, 0, none⟩ 1 1 [.int .i64 (k : Nat), .string d] rfl rfl (cell_two_top _ _ _ _ _ (by simp)) (by intro u hu; simp at hu; rcases hu with rfl | rfl <;> rfl) (by unfold maxLen; omega) (by omega) (by have := hb2.size; have := hnx.size; simp; omega) ?_; intro v3 w3 hown3 hgrow3 hnil3))
  have hF := HO.out.below hb2
  have hbw := hnx.trans (hb2.mono hnx.size)
  have hby := hbw.alloc hbw.size (.cells #[.int .i64 (k : Nat), .string d] 49)
  have hbz := (hby.alloc hby.size (.cells #[.int .i64 (k : Nat), .string d] 49)).grown hgrow3 (by have := hbw.size; simp; omega) (fun j hj => (World.ownsRow.lt hF j hj).1)
  clear hnil3 hgrow3
  go_roundw
  case rel => exact ⟨i + n + 5, acc', o, by omega, by go_num, rfl, HE.out, by unfold Frames; rw [HLen.out, HN.out]; exact hown3, hbz⟩
  case measure => simp [intOf]; omega
end Go.Proofs.YtbophanlmkbfeaaGreatDoor
namespace Go.Proofs.YtbophanlmkbfeaaGreatDoor
open Go.RowKit
def SlAt (k : Nat) (sl : Value) (l : List (UInt8 × List UInt8)) : Prop := (sl = .slice none 0 0 ∧ l = []) ∨ ∃ cap, sl = .slice (some ⟨k, 0, none⟩) l.length cap
theorem SlAt.real {k : Nat} {sl v : Value} {l : List (UInt8 × List UInt8)} {bl : Bl} (h : SlAt k sl l) (r : RV bl sl v) : ∃ A cap, v = .slice A l.length cap ∧ (l ≠ [] → ∃ B, bl[k]? = some (some B) ∧ A = some ⟨B, 0, none⟩) := by
 rcases h with ⟨rfl, rfl⟩ | ⟨cap, rfl⟩
 ·exact ⟨none, 0, r, fun e => absurd rfl e⟩
 ·obtain ⟨B, h1, e⟩ := r
  exact ⟨_, cap, e, fun _ => ⟨B, h1, rfl⟩⟩
theorem SlAt.ptr {k k2 : Nat} {sl : Value} {l : List (UInt8 × List UInt8)} (h : SlAt k sl l) (hk : k < k2) : ptrOk k2 sl = true := by
 rcases h with ⟨rfl, _⟩ | ⟨cap, rfl⟩
 ·rfl
 ·exact decide_eq_true hk
theorem RW.framesAt {bs : List Nat} {w0 : World} {bl : Bl} {m : Xm} {w w' : World} {k : Nat} (h : RW bs w0 bl m w) (hl : bl.length = k) (hm : m.length = k) (hb : Below w.heap.size w w') {v : Value} {l : List (UInt8 × List UInt8)} (hf : Frames w.heap.size w' v l) :
    ∃ x sl, SlAt k sl l ∧ RV (bl ++ [x]) sl v ∧ RW bs w0 (bl ++ [x]) (m ++ [cellsOf l]) w' := by
 have h' := h.pure hb
 rcases hf.2 with ⟨rfl, h0⟩ | ⟨g, cap, cur, rfl, hg, hgg, _, _, _, hx⟩
 ·exact ⟨none, .slice none 0 0, .inl ⟨rfl, List.length_eq_zero_iff.1 h0⟩, rfl, h'.wide 1 _⟩
 ·have h3 : (bl ++ [some g])[k]? = some (some g) := by rw [List.getElem?_append_right (by omega), hl, Nat.sub_self]; rfl
  refine ⟨some g, .slice (some ⟨k, 0, none⟩) l.length cap, .inr ⟨cap, rfl⟩, ⟨g, h3, rfl⟩, h'.add (hl.trans hm.symm) (arr_cells hgg hx) (Nat.le_trans h.size hg) (fun k hk => ?_)⟩
  obtain ⟨_, _, A⟩ := h.arr k g hk
  have := A.lies
  omega
theorem frame_load {P : Program} {tF : TypeId} {l : List (UInt8 × List UInt8)} {i : Int} (ha : qrun P (isAgg tF) = some true) (hz : qrun P (sizeOf tF) = some 2) (hil : i.toNat < l.length) (_ : 0 ≤ i) : loadV P tF (cellsOf l) (i.toNat * 2) = some (.agg #[.int .i64 (frL l i).1, .string (frL l i).2]) := by
 have hc := cellsOf_at l i.toNat hil
 have hcl := cellsOf_length l
 have hf : frL l i = (((l[i.toNat].1.toNat : Nat) : Int), (⟨l[i.toNat].2.toArray⟩ : ByteArray)) := by unfold frL; rw [List.getElem?_eq_getElem hil]
 unfold loadV
 rw [ha, hz]
 dsimp only
 rw [if_pos (by omega), hf]
 have hd : ((cellsOf l).drop (i.toNat * 2)).take 2 = [.int .i64 (l[i.toNat].1.toNat : Nat), .string ⟨l[i.toNat].2.toArray⟩] := by
  obtain ⟨q1, q2⟩ := List.getElem?_eq_some_iff.1 hc.1
  obtain ⟨q3, q4⟩ := List.getElem?_eq_some_iff.1 hc.2
  rw [List.drop_eq_getElem_cons q1, List.drop_eq_getElem_cons q3, q2, q4]
  rfl
 rw [hd]
end Go.Proofs.YtbophanlmkbfeaaGreatDoor
