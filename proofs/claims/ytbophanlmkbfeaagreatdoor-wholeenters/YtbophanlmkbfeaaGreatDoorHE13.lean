/-
A part.
A part.
A part.
A part.
A part.
A part.
A part.
A part.
A part.
-/
import Derived.Test.YtbophanlmkbfeaaGreatDoorHE12
import Derived.Test.YtbophanlmkbfeaaGreatDoorHE10
import Derived.Test.YtbophanlmkbfeaaGreatDoorHE11
namespace Go.Proofs.YtbophanlmkbfeaaGreatDoor
open Go.RowKit
theorem row_g {τ : Nat → Int} (n : Nat) (g : Nat → Int) : All2 (G0 τ) (List.replicate n uI) (row n g) := by
 have key : ∀ (l : List Nat), All2 (G0 τ) (List.replicate l.length uI) (l.map fun i => .int .i64 (g i)) := by
  intro l
  induction l with
  | nil => trivial
  | cons a l ih => exact ⟨⟨g a, rfl⟩, ih⟩
 have := key (List.range n)
 rw [List.length_range] at this
 exact this
theorem row_of {τ : Nat → Int} (n : Nat) (v : Value) (h : G2 τ (rI n) v) : ∃ g, v = .agg (row n g).toArray := by
 obtain ⟨l, rfl, gl⟩ := h
 have hl := gl.len
 rw [List.length_replicate] at hl
 refine ⟨fun i => match l[i]? with
  | some (.int _ x) => x
  | _ => 0, ?_⟩
 have e : l = row n (fun i => match l[i]? with
  | some (.int _ x) => x
  | _ => 0) := by
  refine List.ext_getElem (by rw [row_len]; exact hl.symm) (fun i h1 h2 => ?_)
  rw [row_get]
  obtain ⟨b, hb, x, rfl⟩ := gl.get i uI (by rw [List.getElem?_replicate]; simp; omega)
  rw [hb]
  rw [List.getElem?_eq_getElem h1] at hb
  exact Option.some.inj hb
 exact congrArg (fun l => Value.agg ⟨l⟩) e
theorem hmid_l0_stays (x : Nat → Int) (z : Int × Bool) (h : z.2 = true) : ∀ n, (hmiddleS_l0 x z n).2 = true
 | 0 => h
 | n + 1 => by
  have ih := hmid_l0_stays x z h n
  show (hmiddleS_l0s x n (hmiddleS_l0 x z n)).2 = true
  unfold hmiddleS_l0s
  dsimp only
  rw [ih, addS_no (show tk true _ = false from rfl)]
theorem hmid_stays (x : Nat → Int) : (hmiddleS true x).2 = true := by
 unfold hmiddleS
 dsimp only
 rw [hmid_l0_stays x _ rfl, partS_no (show tk true _ = false from rfl)]
theorem hprod_l2_stays (x y : Nat → Int) (i j : Nat) (z : (Nat → Int) × Bool) (h : z.2 = true) : ∀ n, (hproductsS_l2 x y i j z n).2 = true
 | 0 => h
 | n + 1 => by
  rw [hproductsS_l2_succ]
  unfold hproductsS_l2s
  dsimp only
  rw [hprod_l2_stays x y i j z h n, mulS_no (show tk true _ = false from rfl)]
theorem hprod_l1_stays (x y : Nat → Int) (i : Nat) (z : (Nat → Int) × Bool) (h : z.2 = true) : ∀ n, (hproductsS_l1 x y i z n).2 = true
 | 0 => h
 | n + 1 => by
  rw [hproductsS_l1_succ]
  unfold hproductsS_l1s
  dsimp only
  rw [hprod_l2_stays x y i n (fun _ => 0, (hproductsS_l1 x y i z n).2) (hprod_l1_stays x y i z h n) 13, hmid_stays]
theorem hprod_l0_stays (x y : Nat → Int) (z : (Nat → Int) × Bool) (h : z.2 = true) : ∀ n, (hproductsS_l0 x y z n).2 = true
 | 0 => h
 | n + 1 => by
  rw [hproductsS_l0_succ]
  unfold hproductsS_l0s
  dsimp only
  rw [hprod_l1_stays x y n ((hproductsS_l0 x y z n).1, (hproductsS_l0 x y z n).2) (hprod_l0_stays x y z h n) 6]
theorem prods_d (rest : List Value) (h : All2 (G2 (fun _ => 0)) [rI 78, rI 78] rest) : ∃ x, (then' (cRow 78) (lone' (cRow 78))).enc x = rest := by
 match rest, h with
 | [a, b], ⟨ha, hb, _⟩ =>
  obtain ⟨x, ex⟩ := row_of 78 a ha
  obtain ⟨y, ey⟩ := row_of 78 b hb
  refine ⟨(x, y), ?_⟩
  rw [ex, ey]
  rfl
theorem prods_c (τ : Nat → Int) (y : Nat → Int) : G2 τ (rI 36) ((cRow 36).enc y) := ⟨row 36 y, rfl, row_g 36 y⟩
def hprodN (m : Nat) (bad : Bool) (x y : Nat → Int) : (Nat → Int) × Bool := let r1 := hproductsS_l0 x y ((fun _ => 0), bad) m; (r1.1, r1.2)
theorem hprodN_stays (m : Nat) (x y : Nat → Int) : (hprodN m true x y).2 = true := hprod_l0_stays x y (fun _ => 0, true) rfl m
theorem hprodN_is (x y : Nat → Int) : hproductsS true x y = hprodN 6 true x y := by
 unfold hproductsS hprodN
 rfl
theorem hprod_stays (x y : Nat → Int) : (hproductsS true x y).2 = true := by
 rw [hprodN_is]
 exact hprodN_stays 6 x y
def tfproducts : ACt Tryz.prog nq := rowF false (go_of Tryz.func115 (by kernel_rfl) (by kernel_rfl)) (op_of (f := 115) (sa := [rI 78, rI 78]) (sr := rI 36) (fb := unkB) (d := then' (cRow 78) (lone' (cRow 78))) (g := fun bad x => hproductsS bad x.1 x.2) (c := cRow 36) (fun b bad x w _ _ hw => hproducts_any b bad x.1 x.2 w hw) prods_d prods_c (fun x => hprod_stays x.1 x.2) (fun τ _ _ => fbg τ _)) (by decide +kernel)
end Go.Proofs.YtbophanlmkbfeaaGreatDoor
namespace Go.Proofs.YtbophanlmkbfeaaGreatDoor
open Go.RowKit
theorem fPoints_op : ∃ g, FOp Tryz.prog nq 109 [rI 43] (rI 78) unkB g := flow_ax (tbl := [taRoot, tSqrt, tMul]) (dirty := fun _ => []) (n := 8) nq_one xmixA Tryz.func109 rfl (by decide +kernel)
def tfPoints : ACt Tryz.prog nq := rowF false (go_of Tryz.func109 (by kernel_rfl) (by kernel_rfl)) fPoints_op (by decide +kernel)
end Go.Proofs.YtbophanlmkbfeaaGreatDoor
namespace Go.Proofs.YtbophanlmkbfeaaGreatDoor
open Go.RowKit
abbrev Dri := Bool × Tup 7
abbrev dDri : Dl Dri := dcat 1 (lone' cB) (dT 7)
abbrev Cra := Bool × Int × ByteArray × Tup 6 × Bool × Tup 7 × Dri × Tup 43 × Tup 3
abbrev dCra : Dl Cra := then' cB (then' cI (then' cS (dcat 6 (dT 6) (then' cB (dcat 7 (dT 7) (dcat 8 dDri (dcat 43 (dT 43) (dT 3))))))))
abbrev cCra : Dc Cra := cAgg dCra
abbrev cDri : Dc Dri := cAgg dDri
abbrev cHea : Dc (Tup 5 × Tup 5 × Tup 5 × Int) := cAgg (dcat 5 (dT 5) (dcat 5 (dT 5) (dcat 5 (dT 5) (lone' cI))))
abbrev cSky : Dc (Bool × Tup 3 × Tup 6) := cAgg (then' cB (dcat 3 (dT 3) (dT 6)))
abbrev cSee : Dc (Bool × Bool × Bool × Bool × Bool × Bool × Bool × Int) := cAgg (then' cB (then' cB (then' cB (then' cB (then' cB (then' cB (then' cB (lone' cI))))))))
def rejW (n : Int) : Int := if n ≥ 65535 then 65535 else IntKind.i64.wrap (n + 1)
theorem rejected_fx : PureOk Tryz.prog 44 (lone' cI) (fun x => rejW x) cI := pure_sx (tbl := []) (dirty := fun _ => []) (n := 4) xmixA Tryz.func44 rfl (fun x Post => by
    refine Eq.trans (b := ?m) ?x (Eq.symm ?y)
    case y => unfold rejW; simp only [← vif_le (K := PJ cI Post)]; exact rfl
    case x => kernel_rfl)
def ctrejected : Ct Tryz.prog := pureCt Tryz.prog 44 (lone' cI) (fun x => rejW x) cI (go_of Tryz.func44 (by kernel_rfl) (by kernel_rfl)) rejected_fx
theorem there_fx : PureOk Tryz.prog 47 (lone' (cT 5)) (fun x => !decide (x.1 = 0)) cB := pure_sx (tbl := []) (dirty := fun _ => []) (n := 4) xmixA Tryz.func47 rfl (fun x Post => by kernel_rfl)
def ctthere : Ct Tryz.prog := pureCt Tryz.prog 47 (lone' (cT 5)) (fun x => !decide (x.1 = 0)) cB (go_of Tryz.func47 (by kernel_rfl) (by kernel_rfl)) there_fx
def goesW (c : Cra) (tick : Int) : Bool := let ms := IntKind.u64.wrap (IntKind.u64.wrap tick - IntKind.u64.wrap c.2.1); if c.1 then (if 10 ≤ ms then decide (ms ≤ 10000) else false) else false
theorem goesOn_fx : PureOk Tryz.prog 52 (then' cCra (lone' cI)) (fun x => goesW x.1 x.2) cB := pure_sx (tbl := []) (dirty := fun _ => []) (n := 4) xmixA Tryz.func52 rfl (fun x Post => by
    refine Eq.trans (b := ?m) ?x (Eq.symm ?y)
    case y => unfold goesW; simp only [← vif_b (K := PJ cB Post), ← vif_le (K := PJ cB Post)]; exact rfl
    case x => kernel_rfl)
end Go.Proofs.YtbophanlmkbfeaaGreatDoor
namespace Go.Proofs.YtbophanlmkbfeaaGreatDoor
open Go.RowKit
abbrev Hea := Tup 5 × Tup 5 × Tup 5 × Int
abbrev Sky := Bool × Tup 3 × Tup 6
abbrev See := Bool × Bool × Bool × Bool × Bool × Bool × Bool × Int
abbrev Fra := Int × ByteArray
abbrev cFra : Dc Fra := cAgg (then' cI (lone' cS))
abbrev Tel := Tup 13
structure Fs where
 right : Int → Bool
 place : Bool → Tup 7 × Int → Tup 3 × Bool
 dir : Bool → Int → Tup 3 × Bool
 sky : Bool → Tup 3 × Int → Tup 3 × Bool
 norm : Bool → Tup 3 → Int × Bool
 apart : Bool → Tup 3 × Tup 3 → Bool × Bool
 shaded : Bool → Tup 3 × Tup 3 → Bool × Bool
 move : Bool → Tup 43 × Tup 3 × Int → Tup 43 × Bool
 meet : Bool → Tup 43 × Tup 6 × Tup 6 → (Tup 43 × Int × Bool) × Bool
 spread : Bool → Tup 43 → Int × Bool
 att : Bool → Tup 6 × Tup 6 → Tup 4 × Bool
 start : Tup 4 → Tup 43
 bstep : Bool → Dri × Tup 3 × Int → Dri × Bool
 dip : Bool → Dri → Tup 3 × Bool
 next : Tup 6 × See → Tup 6
 counts : Tup 4 × Tup 3 → Tup 4 × Tup 3
 write : Tel → Fra × Bool
 wrap : Fra → ByteArray × Bool
 read : Fra → Tup 5 × Bool
 fresh : Tup 5 × Int → Bool
 oread : Fra → Tup 9 × Int
structure FsOk (F : Fs) : Prop where
 right : PureOk Tryz.prog 22 (lone' cI) F.right cB
 place : FlowOk Tryz.prog 49 (then' (cT 7) (lone' cI)) F.place (cT 3)
 dir : FlowOk Tryz.prog 50 (lone' cI) F.dir (cT 3)
 sky : FlowOk Tryz.prog 51 (then' (cT 3) (lone' cI)) F.sky (cT 3)
 norm : FlowOk Tryz.prog 53 (lone' (cT 3)) F.norm cI
 apart : FlowOk Tryz.prog 105 (then' (cT 3) (lone' (cT 3))) F.apart cB
 shaded : FlowOk Tryz.prog 55 (then' (cT 3) (lone' (cT 3))) F.shaded cB
 move : FlowOk Tryz.prog 56 (then' (cT 43) (then' (cT 3) (lone' cI))) F.move (cT 43)
 meet : FlowOk Tryz.prog 57 (then' (cT 43) (then' (cT 6) (lone' (cT 6)))) F.meet (three' (cT 43) cI cB)
 spread : FlowOk Tryz.prog 59 (lone' (cT 43)) F.spread cI
 att : FlowOk Tryz.prog 136 (then' (cT 6) (lone' (cT 6))) F.att (cT 4)
 start : PureOk Tryz.prog 135 (lone' (cT 4)) F.start (cT 43)
 bstep : FlowOk Tryz.prog 48 (then' cDri (then' (cT 3) (lone' cI))) F.bstep cDri
 dip : FlowOk Tryz.prog 138 (lone' cDri) F.dip (cT 3)
 next : PureOk Tryz.prog 60 (then' (cT 6) (lone' cSee)) F.next (cT 6)
 counts : PureOk Tryz.prog 62 (then' (cT 4) (lone' (cT 3))) F.counts (two' (cT 4) (cT 3))
 write : PureOk Tryz.prog 64 (lone' (cT 13)) F.write (two' cFra cB)
 wrap : PureOk Tryz.prog 65 (lone' cFra) F.wrap (two' cS cB)
 read : PureOk Tryz.prog 83 (lone' cFra) F.read (two' (cT 5) cB)
 fresh : PureOk Tryz.prog 84 (then' (cT 5) (lone' cI)) F.fresh cB
 oread : PureOk Tryz.prog 85 (lone' cFra) F.oread (two' (cT 9) cI)
def ctright (F : Fs) (h : FsOk F) : Ct Tryz.prog := pureCt Tryz.prog 22 _ F.right _ (go_of Tryz.func22 (by kernel_rfl) (by kernel_rfl)) h.right
def ctplace (F : Fs) (h : FsOk F) : Ct Tryz.prog := flowCt Tryz.prog 49 _ F.place _ (go_of Tryz.func49 (by kernel_rfl) (by kernel_rfl)) h.place
def ctdir (F : Fs) (h : FsOk F) : Ct Tryz.prog := flowCt Tryz.prog 50 _ F.dir _ (go_of Tryz.func50 (by kernel_rfl) (by kernel_rfl)) h.dir
def ctsky (F : Fs) (h : FsOk F) : Ct Tryz.prog := flowCt Tryz.prog 51 _ F.sky _ (go_of Tryz.func51 (by kernel_rfl) (by kernel_rfl)) h.sky
def ctnorm (F : Fs) (h : FsOk F) : Ct Tryz.prog := flowCt Tryz.prog 53 _ F.norm _ (go_of Tryz.func53 (by kernel_rfl) (by kernel_rfl)) h.norm
def ctapart (F : Fs) (h : FsOk F) : Ct Tryz.prog := flowCt Tryz.prog 105 _ F.apart _ (go_of Tryz.func105 (by kernel_rfl) (by kernel_rfl)) h.apart
def ctshaded (F : Fs) (h : FsOk F) : Ct Tryz.prog := flowCt Tryz.prog 55 _ F.shaded _ (go_of Tryz.func55 (by kernel_rfl) (by kernel_rfl)) h.shaded
def ctmove (F : Fs) (h : FsOk F) : Ct Tryz.prog := flowCt Tryz.prog 56 _ F.move _ (go_of Tryz.func56 (by kernel_rfl) (by kernel_rfl)) h.move
def ctmeet (F : Fs) (h : FsOk F) : Ct Tryz.prog := flowCt Tryz.prog 57 _ F.meet _ (go_of Tryz.func57 (by kernel_rfl) (by kernel_rfl)) h.meet
def ctspread (F : Fs) (h : FsOk F) : Ct Tryz.prog := flowCt Tryz.prog 59 _ F.spread _ (go_of Tryz.func59 (by kernel_rfl) (by kernel_rfl)) h.spread
def ctatt (F : Fs) (h : FsOk F) : Ct Tryz.prog := flowCt Tryz.prog 136 _ F.att _ (go_of Tryz.func136 (by kernel_rfl) (by kernel_rfl)) h.att
def ctstart (F : Fs) (h : FsOk F) : Ct Tryz.prog := pureCt Tryz.prog 135 _ F.start _ (go_of Tryz.func135 (by kernel_rfl) (by kernel_rfl)) h.start
def ctbstep (F : Fs) (h : FsOk F) : Ct Tryz.prog := flowCt Tryz.prog 48 _ F.bstep _ (go_of Tryz.func48 (by kernel_rfl) (by kernel_rfl)) h.bstep
def ctdip (F : Fs) (h : FsOk F) : Ct Tryz.prog := flowCt Tryz.prog 138 _ F.dip _ (go_of Tryz.func138 (by kernel_rfl) (by kernel_rfl)) h.dip
def ctnext (F : Fs) (h : FsOk F) : Ct Tryz.prog := pureCt Tryz.prog 60 _ F.next _ (go_of Tryz.func60 (by kernel_rfl) (by kernel_rfl)) h.next
def ctcounts (F : Fs) (h : FsOk F) : Ct Tryz.prog := pureCt Tryz.prog 62 _ F.counts _ (go_of Tryz.func62 (by kernel_rfl) (by kernel_rfl)) h.counts
def ctwrite (F : Fs) (h : FsOk F) : Ct Tryz.prog := pureCt Tryz.prog 64 _ F.write _ (go_of Tryz.func64 (by kernel_rfl) (by kernel_rfl)) h.write
def ctwrap (F : Fs) (h : FsOk F) : Ct Tryz.prog := pureCt Tryz.prog 65 _ F.wrap _ (go_of Tryz.func65 (by kernel_rfl) (by kernel_rfl)) h.wrap
def ctread (F : Fs) (h : FsOk F) : Ct Tryz.prog := pureCt Tryz.prog 83 _ F.read _ (go_of Tryz.func83 (by kernel_rfl) (by kernel_rfl)) h.read
def ctfresh (F : Fs) (h : FsOk F) : Ct Tryz.prog := pureCt Tryz.prog 84 _ F.fresh _ (go_of Tryz.func84 (by kernel_rfl) (by kernel_rfl)) h.fresh
def ctoread (F : Fs) (h : FsOk F) : Ct Tryz.prog := pureCt Tryz.prog 85 _ F.oread _ (go_of Tryz.func85 (by kernel_rfl) (by kernel_rfl)) h.oread
def ctgoesOn : Ct Tryz.prog := pureCt Tryz.prog 52 (then' cCra (lone' cI)) (fun x => goesW x.1 x.2) cB (go_of Tryz.func52 (by kernel_rfl) (by kernel_rfl)) goesOn_fx
section
variable (F : Fs)
def pairT (a b : Tup 3) : Tup 6 := (a.1, a.2.1, a.2.2.1, b.1, b.2.1, b.2.2.1, ())
def fstT (a : Tup 6) : Tup 3 := (a.1, a.2.1, a.2.2.1, ())
def sndT (a : Tup 6) : Tup 3 := (a.2.2.2.1, a.2.2.2.2.1, a.2.2.2.2.2.1, ())
def dirsW (x : Hea) : Tup 6 := pairT x.2.1.2.2 x.2.2.1.2.2
theorem directions_fx : PureOk Tryz.prog 58 (lone' cHea) (fun x => dirsW x) (cT 6) := pure_sx (tbl := []) (dirty := fun _ => []) (n := 4) xmixA Tryz.func58 rfl (fun x Post => by kernel_rfl)
def ctdirections : Ct Tryz.prog := pureCt Tryz.prog 58 (lone' cHea) (fun x => dirsW x) (cT 6) (go_of Tryz.func58 (by kernel_rfl) (by kernel_rfl)) directions_fx
def driftW (d : Dri) (x : Hea) : Dri := if !(!decide (x.2.2.1.1 = 0)) then d else (F.bstep false (d, x.2.2.1.2.2, x.2.2.1.2.1)).1
theorem drifted_fx (h : FsOk F) : PureOk Tryz.prog 24 (then' cDri (lone' cHea)) (fun x => driftW F x.1 x.2) cDri := pure_sx (tbl := [ctthere, ctbstep F h]) (dirty := fun _ => []) (n := 4) xmixA Tryz.func24 rfl (fun x Post => by
    refine Eq.trans (b := ?m) ?x (Eq.symm ?y)
    case y => unfold driftW; simp only [← vif_b (K := PJ cDri Post)]; exact rfl
    case x => kernel_rfl)
def ctdrifted (h : FsOk F) : Ct Tryz.prog := pureCt Tryz.prog 24 (then' cDri (lone' cHea)) (fun x => driftW F x.1 x.2) cDri (go_of Tryz.func24 (by kernel_rfl) (by kernel_rfl)) (drifted_fx F h)
def zeroSky : Sky := (false, (0, 0, 0, ()), (0, 0, 0, 0, 0, 0, ()))
def skyW (c : Cra) (t : Int) : Sky :=
 if !c.2.2.2.2.1 then zeroSky else
 if (F.sky (F.dir (F.place false (c.2.2.2.2.2.1, t)).2 t).2 ((F.place false (c.2.2.2.2.2.1, t)).1, t)).2 then zeroSky else
 (true, (F.place false (c.2.2.2.2.2.1, t)).1, pairT (F.dir (F.place false (c.2.2.2.2.2.1, t)).2 t).1 (F.sky (F.dir (F.place false (c.2.2.2.2.2.1, t)).2 t).2 ((F.place false (c.2.2.2.2.2.1, t)).1, t)).1)
theorem skyAt_fx (h : FsOk F) : PureOk Tryz.prog 25 (then' cCra (lone' cI)) (fun x => skyW F x.1 x.2) cSky := pure_sx (tbl := [ctplace F h, ctdir F h, ctsky F h]) (dirty := fun _ => []) (n := 4) xmixA Tryz.func25 rfl (fun x Post => by
    refine Eq.trans (b := ?m) ?x (Eq.symm ?y)
    case y => unfold skyW; simp only [← vif_b (K := PJ cSky Post)]; exact rfl
    case x => kernel_rfl)
def ctskyAt (h : FsOk F) : Ct Tryz.prog := pureCt Tryz.prog 25 (then' cCra (lone' cI)) (fun x => skyW F x.1 x.2) cSky (go_of Tryz.func25 (by kernel_rfl) (by kernel_rfl)) (skyAt_fx F h)
def standW (x : Hea) (s : Sky) : Bool :=
 if !s.1 then false else if !(!decide (x.2.1.1 = 0)) then false else if !(!decide (x.2.2.1.1 = 0)) then false else
 if (F.apart false (fstT s.2.2, sndT s.2.2)).1 then (F.apart (F.apart false (fstT s.2.2, sndT s.2.2)).2 (fstT (dirsW x), sndT (dirsW x))).1 else false
theorem standsWell_fx (h : FsOk F) : PureOk Tryz.prog 54 (then' cHea (lone' cSky)) (fun x => standW F x.1 x.2) cB := pure_sx (tbl := [ctthere, ctdirections, ctapart F h]) (dirty := fun _ => []) (n := 4) xmixA Tryz.func54 rfl (fun x Post => by
    refine Eq.trans (b := ?m) ?x (Eq.symm ?y)
    case y => unfold standW; simp only [← vif_b (K := PJ cB Post)]; exact rfl
    case x => kernel_rfl)
def ctstandsWell (h : FsOk F) : Ct Tryz.prog := pureCt Tryz.prog 54 (then' cHea (lone' cSky)) (fun x => standW F x.1 x.2) cB (go_of Tryz.func54 (by kernel_rfl) (by kernel_rfl)) (standsWell_fx F h)
def decW (c : Cra) (t : Int) (x : Hea) (s : Sky) : See :=
 if !decide (x.1.1 = 0) then
  (if s.1 then (!goesW c t, !decide (x.1.1 = 0), decide ((F.norm false x.1.2.2).1 ≤ 54975581388), standW F x s, !(F.shaded false (s.2.1, fstT s.2.2)).1, false, false, x.2.2.2)
  else (!goesW c t, !decide (x.1.1 = 0), decide ((F.norm false x.1.2.2).1 ≤ 54975581388), standW F x s, false, false, false, x.2.2.2))
 else
  (if s.1 then (!goesW c t, !decide (x.1.1 = 0), false, standW F x s, !(F.shaded false (s.2.1, fstT s.2.2)).1, false, false, x.2.2.2)
  else (!goesW c t, !decide (x.1.1 = 0), false, standW F x s, false, false, false, x.2.2.2))
theorem decided_fx (h : FsOk F) : PureOk Tryz.prog 26 (then' cCra (then' cI (then' cHea (lone' cSky)))) (fun x => decW F x.1 x.2.1 x.2.2.1 x.2.2.2) cSee := pure_sx (tbl := [ctgoesOn, ctthere, ctnorm F h, ctstandsWell F h, ctshaded F h]) (dirty := fun _ => []) (n := 4) xmixA Tryz.func26 rfl (fun x Post => by
    refine Eq.trans (b := ?m) ?x (Eq.symm ?y)
    case y => unfold decW; simp only [← vif_b (K := PJ cSee Post)]; exact rfl
    case x => kernel_rfl)
def ctdecided (h : FsOk F) : Ct Tryz.prog := pureCt Tryz.prog 26 (then' cCra (then' cI (then' cHea (lone' cSky)))) (fun x => decW F x.1 x.2.1 x.2.2.1 x.2.2.2) cSee (go_of Tryz.func26 (by kernel_rfl) (by kernel_rfl)) (decided_fx F h)
def or4W (x : Int) : Int := IntKind.i64.wrap ((BitVec.ofInt IntKind.i64.bits x ||| BitVec.ofInt IntKind.i64.bits 4).toNat)
def zeroG : Tup 43 := (0, 0, 0, 0, 0, 0, 0, 0, 0, 0, 0, 0, 0, 0, 0, 0, 0, 0, 0, 0, 0, 0, 0, 0, 0, 0, 0, 0, 0, 0, 0, 0, 0, 0, 0, 0, 0, 0, 0, 0, 0, 0, 0, ())
def entW (p : Tup 6) (a b : Tup 6) : Tup 6 × Tup 43 := if (F.att false (a, b)).2 then ((1, 0, 0, 0, 0, or4W p.2.2.2.2.2.1, ()), zeroG) else (p, F.start (F.att false (a, b)).1)
theorem entered_fx (h : FsOk F) : PureOk Tryz.prog 61 (then' (cT 6) (then' (cT 6) (lone' (cT 6)))) (fun x => entW F x.1 x.2.1 x.2.2) (two' (cT 6) (cT 43)) := pure_sx (tbl := [ctatt F h, ctstart F h]) (dirty := fun _ => []) (n := 4) xmixA Tryz.func61 rfl (fun x Post => by
    refine Eq.trans (b := ?m) ?x (Eq.symm ?y)
    case y => unfold entW; simp only [← vif_b (K := PJ (two' (cT 6) (cT 43)) Post)]; exact rfl
    case x => kernel_rfl)
def ctentered (h : FsOk F) : Ct Tryz.prog := pureCt Tryz.prog 61 (then' (cT 6) (then' (cT 6) (lone' (cT 6)))) (fun x => entW F x.1 x.2.1 x.2.2) (two' (cT 6) (cT 43)) (go_of Tryz.func61 (by kernel_rfl) (by kernel_rfl)) (entered_fx F h)
def planW (c : Cra) (s : See) (x : Hea) (y : Sky) : Tup 6 × Tup 43 :=
 if !decide ((F.next (c.2.2.2.1, s)).1 = 2) then (F.next (c.2.2.2.1, s), zeroG) else if decide (c.2.2.2.1.1 = 2) then (F.next (c.2.2.2.1, s), c.2.2.2.2.2.2.2.1) else entW F (F.next (c.2.2.2.1, s)) y.2.2 (dirsW x)
theorem planned_fx (h : FsOk F) : PureOk Tryz.prog 28 (then' cCra (then' cSee (then' cHea (lone' cSky)))) (fun x => planW F x.1 x.2.1 x.2.2.1 x.2.2.2) (two' (cT 6) (cT 43)) := pure_sx (tbl := [ctnext F h, ctdirections, ctentered F h]) (dirty := fun _ => []) (n := 4) xmixA Tryz.func28 rfl (fun x Post => by
    refine Eq.trans (b := ?m) ?x (Eq.symm ?y)
    case y => unfold planW; simp only [← vif_b (K := PJ (two' (cT 6) (cT 43)) Post)]; exact rfl
    case x => kernel_rfl)
def ctplanned (h : FsOk F) : Ct Tryz.prog := pureCt Tryz.prog 28 (then' cCra (then' cSee (then' cHea (lone' cSky)))) (fun x => planW F x.1 x.2.1 x.2.2.1 x.2.2.2) (two' (cT 6) (cT 43)) (go_of Tryz.func28 (by kernel_rfl) (by kernel_rfl)) (planned_fx F h)
end
end Go.Proofs.YtbophanlmkbfeaaGreatDoor
namespace Go.Proofs.YtbophanlmkbfeaaGreatDoor
open Go.RowKit
theorem gparted_op : ∃ g, FOp Tryz.prog nq 165 [uI] (.tuple ⟨[uI, uI]⟩) unkB g := flow_ax (tbl := [tMod]) (dirty := fun _ => []) (n := 8) nq_one xmixA Tryz.func165 rfl (by decide +kernel)
def tgparted : ACt Tryz.prog nq := rowF false (go_of Tryz.func165 (by kernel_rfl) (by kernel_rfl)) gparted_op (by decide +kernel)
theorem gsine_op : ∃ g, FOp Tryz.prog nq 167 [uI] (uI) unkB g := flow_ax (tbl := [tMul, tSub, tPart]) (dirty := fun _ => []) (n := 12) nq_one xmixA Tryz.func167 rfl (by decide +kernel)
def tgsine : ACt Tryz.prog nq := rowF false (go_of Tryz.func167 (by kernel_rfl) (by kernel_rfl)) gsine_op (by decide +kernel)
theorem gcosine_op : ∃ g, FOp Tryz.prog nq 166 [uI] (uI) unkB g := flow_ax (tbl := [tMul, tSub, tPart]) (dirty := fun _ => []) (n := 12) nq_one xmixA Tryz.func166 rfl (by decide +kernel)
def tgcosine : ACt Tryz.prog nq := rowF false (go_of Tryz.func166 (by kernel_rfl) (by kernel_rfl)) gcosine_op (by decide +kernel)
theorem gSin_op : ∃ g, FOp Tryz.prog nq 98 [uI] (uI) unkB g := flow_ax (tbl := [tgparted, tgsine, tgcosine]) (dirty := fun _ => []) (n := 8) nq_one xmixA Tryz.func98 rfl (by decide +kernel)
def tgSin : ACt Tryz.prog nq := rowF false (go_of Tryz.func98 (by kernel_rfl) (by kernel_rfl)) gSin_op (by decide +kernel)
theorem gCos_op : ∃ g, FOp Tryz.prog nq 97 [uI] (uI) unkB g := flow_ax (tbl := [tgparted, tgsine, tgcosine]) (dirty := fun _ => []) (n := 8) nq_one xmixA Tryz.func97 rfl (by decide +kernel)
def tgCos : ACt Tryz.prog nq := rowF false (go_of Tryz.func97 (by kernel_rfl) (by kernel_rfl)) gCos_op (by decide +kernel)
theorem kRight_op : ∃ g, POp Tryz.prog 22 [uI] (unkB) g := pure_ax (nq := nq) (tbl := []) (dirty := fun _ => []) (n := 8) xmixA Tryz.func22 rfl (by decide +kernel)
def tkRight : ACt Tryz.prog nq := rowP (go_of Tryz.func22 (by kernel_rfl) (by kernel_rfl)) kRight_op (by decide +kernel)
theorem kDays_op : ∃ g, FOp Tryz.prog nq 92 [uI] (uI) unkB g := flow_ax (tbl := [tkRight, tFail, tPart]) (dirty := fun _ => []) (n := 8) nq_one xmixA Tryz.func92 rfl (by decide +kernel)
def tkDays : ACt Tryz.prog nq := rowF false (go_of Tryz.func92 (by kernel_rfl) (by kernel_rfl)) kDays_op (by decide +kernel)
theorem kTurn_op : ∃ g, FOp Tryz.prog nq 101 [uI] (uI) unkB g := flow_ax (tbl := [tkRight, tFail, tPart, tMul, tkDays, tMod, tAdd]) (dirty := fun _ => []) (n := 8) nq_one xmixA Tryz.func101 rfl (by decide +kernel)
def tkTurn : ACt Tryz.prog nq := rowF false (go_of Tryz.func101 (by kernel_rfl) (by kernel_rfl)) kTurn_op (by decide +kernel)
theorem orightFar_op : ∃ g, POp Tryz.prog 154 [uI, uI] (unkB) g := pure_ax (nq := nq) (tbl := [tMul]) (dirty := fun _ => []) (n := 8) xmixA Tryz.func154 rfl (by decide +kernel)
def torightFar : ACt Tryz.prog nq := rowP (go_of Tryz.func154 (by kernel_rfl) (by kernel_rfl)) orightFar_op (by decide +kernel)
theorem orightAngle_op : ∃ g, POp Tryz.prog 155 [uI] (unkB) g := pure_ax (nq := nq) (tbl := []) (dirty := fun _ => []) (n := 8) xmixA Tryz.func155 rfl (by decide +kernel)
def torightAngle : ACt Tryz.prog nq := rowP (go_of Tryz.func155 (by kernel_rfl) (by kernel_rfl)) orightAngle_op (by decide +kernel)
theorem oRight_op : ∃ g, POp Tryz.prog 89 [rI 7] (unkB) g := pure_ax (nq := nq) (tbl := [torightFar, torightAngle, tkRight]) (dirty := fun _ => []) (n := 8) xmixA Tryz.func89 rfl (by decide +kernel)
def toRight : ACt Tryz.prog nq := rowP (go_of Tryz.func89 (by kernel_rfl) (by kernel_rfl)) oRight_op (by decide +kernel)
theorem oKepler_op : ∃ g, FOp Tryz.prog nq 95 [uI, uI] (uI) unkB g := flow_ax (tbl := [tFail, tSub, tMul, tDiv, tgSin, tgCos]) (dirty := fun _ => []) (n := 8) nq_one xmixA Tryz.func95 rfl (by decide +kernel)
def toKepler : ACt Tryz.prog nq := rowF false (go_of Tryz.func95 (by kernel_rfl) (by kernel_rfl)) oKepler_op (by decide +kernel)
theorem oshapeOf_op : ∃ g, FOp Tryz.prog nq 93 [rI 7] (rI 3) unkB g := flow_ax (tbl := [tSqrt, tSub, tMul, tgSin, tgCos]) (dirty := fun _ => []) (n := 8) nq_one xmixA Tryz.func93 rfl (by decide +kernel)
def toshapeOf : ACt Tryz.prog nq := rowF false (go_of Tryz.func93 (by kernel_rfl) (by kernel_rfl)) oshapeOf_op (by decide +kernel)
theorem odrifted_op : ∃ g, FOp Tryz.prog nq 94 [rI 7, rI 3, uI] (rI 3) unkB g := flow_ax (tbl := [tDiv, tSqrt, tMul, tSub, tPart, tAdd, tMod]) (dirty := fun _ => []) (n := 8) nq_one xmixA Tryz.func94 rfl (by decide +kernel)
def todrifted : ACt Tryz.prog nq := rowF false (go_of Tryz.func94 (by kernel_rfl) (by kernel_rfl)) odrifted_op (by decide +kernel)
theorem oturned_op : ∃ g, FOp Tryz.prog nq 99 [uI, uI, uI] (.tuple ⟨[uI, uI]⟩) unkB g := flow_ax (tbl := [tgSin, tgCos, tSub, tMul, tAdd]) (dirty := fun _ => []) (n := 8) nq_one xmixA Tryz.func99 rfl (by decide +kernel)
def toturned : ACt Tryz.prog nq := rowF false (go_of Tryz.func99 (by kernel_rfl) (by kernel_rfl)) oturned_op (by decide +kernel)
theorem oPlace_op : ∃ g, FOp Tryz.prog nq 49 [rI 7, uI] (rI 3) unkB g := flow_ax (tbl := [toRight, tkRight, tFail, tSub, tkDays, toshapeOf, todrifted, toKepler, tMul, tgCos, tgSin, toturned]) (dirty := fun _ => []) (n := 8) nq_one xmixA Tryz.func49 rfl (by decide +kernel)
theorem salong_op : ∃ g, FOp Tryz.prog nq 100 [uI] (uI) unkB g := flow_ax (tbl := [tAdd, tMul, tSub, tPart, tMod, tDiv, tgSin, tgCos]) (dirty := fun _ => []) (n := 8) nq_one xmixA Tryz.func100 rfl (by decide +kernel)
def tsalong : ACt Tryz.prog nq := rowF false (go_of Tryz.func100 (by kernel_rfl) (by kernel_rfl)) salong_op (by decide +kernel)
theorem sDirection_op : ∃ g, FOp Tryz.prog nq 50 [uI] (rI 3) unkB g := flow_ax (tbl := [tkRight, tFail, tkDays, tsalong, tgSin, tgCos, tMul, tAdd, tSub]) (dirty := fun _ => []) (n := 8) nq_one xmixA Tryz.func50 rfl (by decide +kernel)
theorem sShaded_op : ∃ g, FOp Tryz.prog nq 55 [rI 3, rI 3] (unkB) unkB g := flow_ax (tbl := [tvDot, tvNorm, tvScale, tvSub, tvAdd, tvUnit, tMul, tAdd, tSub]) (dirty := fun _ => []) (n := 8) nq_one xmixA Tryz.func55 rfl (by decide +kernel)
end Go.Proofs.YtbophanlmkbfeaaGreatDoor
namespace Go.Proofs.YtbophanlmkbfeaaGreatDoor
open Go.RowKit
theorem bgoesOn_op : ∃ g, POp Tryz.prog 86 [sDri, uI] (unkB) g := pure_ax (nq := nq) (tbl := []) (dirty := fun _ => []) (n := 8) xmixA Tryz.func86 rfl (by decide +kernel)
def tbgoesOn : ACt Tryz.prog nq := rowP (go_of Tryz.func86 (by kernel_rfl) (by kernel_rfl)) bgoesOn_op (by decide +kernel)
theorem bpart_op : ∃ g, FOp Tryz.prog nq 152 [rI 3, uI, uI] (rI 3) unkB g := flow_ax (tbl := [tPart]) (dirty := fun _ => []) (n := 8) nq_one xmixA Tryz.func152 rfl (by decide +kernel)
def tbpart : ACt Tryz.prog nq := rowF false (go_of Tryz.func152 (by kernel_rfl) (by kernel_rfl)) bpart_op (by decide +kernel)
theorem bleaned_op : ∃ g, FOp Tryz.prog nq 87 [sDri, rI 3, uI] (rI 3) unkB g := flow_ax (tbl := [tvSub, tbpart, tvAdd]) (dirty := fun _ => []) (n := 8) nq_one xmixA Tryz.func87 rfl (by decide +kernel)
def tbleaned : ACt Tryz.prog nq := rowF false (go_of Tryz.func87 (by kernel_rfl) (by kernel_rfl)) bleaned_op (by decide +kernel)
theorem bStep_op : ∃ g, FOp Tryz.prog nq 48 [sDri, rI 3, uI] (sDri) unkB g := flow_ax (tbl := [tbgoesOn, tbleaned, tvAdd]) (dirty := fun _ => []) (n := 8) nq_one xmixA Tryz.func48 rfl (by decide +kernel)
end Go.Proofs.YtbophanlmkbfeaaGreatDoor
namespace Go.Proofs.YtbophanlmkbfeaaGreatDoor
open Go.RowKit
theorem cI_of {τ : Nat → Int} (v : Value) (h : G2 τ uI v) : ∃ y, cI.enc y = v := by
 obtain ⟨x, rfl⟩ := h
 exact ⟨x, rfl⟩
theorem cB_of {τ : Nat → Int} (v : Value) (h : G2 τ unkB v) : ∃ y, cB.enc y = v := by
 obtain ⟨x, rfl⟩ := h
 exact ⟨x, rfl⟩
theorem cDri_g {τ : Nat → Int} (x : Dri) : G2 τ sDri (cDri.enc x) := ⟨cDri.enc x |>.cells.toList, rfl, ⟨x.1, rfl⟩, tEnc_g 7 x.2⟩
theorem cDri_of {τ : Nat → Int} (v : Value) (h : G2 τ sDri v) : ∃ y, cDri.enc y = v := by
 obtain ⟨l, rfl, gl⟩ := h
 match l, gl with
 | b :: r, ⟨⟨x, e⟩, gr⟩ =>
  obtain ⟨y, rfl⟩ := tEnc_of 7 r gr
  rw [e]
  exact ⟨(x, y), rfl⟩
theorem place_ex : ∃ g, FlowOk Tryz.prog 49 (then' (cT 7) (lone' cI)) g (cT 3) := (flowOk_of oPlace_op (then' (cT 7) (lone' cI)) (cT 3) (fun x => ⟨cT_g 7 x.1, ⟨x.2, rfl⟩, trivial⟩) (fun _ v h => cT_of 3 v h)).imp fun _ h => h.1
theorem dir_ex : ∃ g, FlowOk Tryz.prog 50 (lone' cI) g (cT 3) := (flowOk_of sDirection_op (lone' cI) (cT 3) (fun x => ⟨⟨x, rfl⟩, trivial⟩) (fun _ v h => cT_of 3 v h)).imp fun _ h => h.1
theorem norm_ex : ∃ g, FlowOk Tryz.prog 53 (lone' (cT 3)) g cI := (flowOk_of vNorm_op (lone' (cT 3)) cI (fun x => ⟨cT_g 3 x, trivial⟩) (fun _ v h => cI_of v h)).imp fun _ h => h.1
theorem apart_ex : ∃ g, FlowOk Tryz.prog 105 (then' (cT 3) (lone' (cT 3))) g cB := (flowOk_of dApart_op (then' (cT 3) (lone' (cT 3))) cB (fun x => ⟨cT_g 3 x.1, cT_g 3 x.2, trivial⟩) (fun _ v h => cB_of v h)).imp fun _ h => h.1
theorem shaded_ex : ∃ g, FlowOk Tryz.prog 55 (then' (cT 3) (lone' (cT 3))) g cB := (flowOk_of sShaded_op (then' (cT 3) (lone' (cT 3))) cB (fun x => ⟨cT_g 3 x.1, cT_g 3 x.2, trivial⟩) (fun _ v h => cB_of v h)).imp fun _ h => h.1
theorem bstep_ex : ∃ g, FlowOk Tryz.prog 48 (then' cDri (then' (cT 3) (lone' cI))) g cDri := (flowOk_of bStep_op (then' cDri (then' (cT 3) (lone' cI))) cDri (fun x => ⟨cDri_g x.1, cT_g 3 x.2.1, ⟨x.2.2, rfl⟩, trivial⟩) (fun _ v h => cDri_of v h)).imp fun _ h => h.1
end Go.Proofs.YtbophanlmkbfeaaGreatDoor
namespace Go.Proofs.YtbophanlmkbfeaaGreatDoor
open Go.RowKit
theorem tDec_enc : ∀ (n : Nat) (x : Tup n), tDec n (tEnc n x) = some x
 | 0, _ => rfl
 | n + 1, x => by
  show (match tDec n (tEnc n x.2) with
   | some y => some (x.1, y)
   | none => none) = some x
  rw [tDec_enc n x.2]
  rfl
def guS : Value := .agg ⟨sym 0 :: sym 1 :: sym 2 :: sym 3 :: List.replicate 39 uI⟩
def nqT (g : Tup 43) : Prop := nq (t4F g.1 g.2.1 g.2.2.1 g.2.2.2.1)
theorem nq_t4 {τ : Nat → Int} (h : nq τ) : nq (t4F (τ 0) (τ 1) (τ 2) (τ 3)) := by
 obtain ⟨h1, h2, h3, h4, h5⟩ := h
 refine ⟨h1, h2, h3, h4, fun i hi => ?_⟩
 match i, hi with
 | 0, _ => exact h5 0 (by decide)
 | 1, _ => exact h5 1 (by decide)
 | 2, _ => exact h5 2 (by decide)
 | 3, _ => exact h5 3 (by decide)
theorem guS_of {τ : Nat → Int} {v : Value} (h : G2 τ guS v) : ∃ x : Tup 43, (cT 43).enc x = v ∧ x.1 = τ 0 ∧ x.2.1 = τ 1 ∧ x.2.2.1 = τ 2 ∧ x.2.2.2.1 = τ 3 := by
 obtain ⟨l, rfl, gl⟩ := h
 match l, gl with
 | v0 :: v1 :: v2 :: v3 :: r, ⟨e0, e1, e2, e3, gr⟩ =>
 have e0 : v0 = .int .i64 (τ 0) := e0
 have e1 : v1 = .int .i64 (τ 1) := e1
 have e2 : v2 = .int .i64 (τ 2) := e2
 have e3 : v3 = .int .i64 (τ 3) := e3
 obtain ⟨y, rfl⟩ := tEnc_of 39 r gr
 subst e0 e1 e2 e3
 exact ⟨(τ 0, τ 1, τ 2, τ 3, y), rfl, rfl, rfl, rfl, rfl⟩
theorem int_inj {a b : Int} (h : Value.int .i64 a = .int .i64 b) : a = b := by cases h; rfl
theorem guS_nq {τ : Nat → Int} {x : Tup 43} (h : G2 τ guS ((cT 43).enc x)) (hq : nq τ) : nqT x := by
 obtain ⟨l, e, gl⟩ := h
 have e : tEnc 43 x = l := congrArg (fun v : Value => match v with
  | .agg cs => cs.toList
  | _ => []) e
 subst e
 obtain ⟨e0, e1, e2, e3, _⟩ := gl
 have e0 : x.1 = τ 0 := int_inj e0
 have e1 : x.2.1 = τ 1 := int_inj e1
 have e2 : x.2.2.1 = τ 2 := int_inj e2
 have e3 : x.2.2.2.1 = τ 3 := int_inj e3
 unfold nqT
 rw [e0, e1, e2, e3]
 exact nq_t4 hq
theorem guS_g (x : Tup 43) : G2 (t4F x.1 x.2.1 x.2.2.1 x.2.2.2.1) guS ((cT 43).enc x) := ⟨tEnc 43 x, rfl, rfl, rfl, rfl, rfl, tEnc_g 39 x.2.2.2.2⟩
def zero43 : Tup 43 := (0, 0, 0, 0, 0, 0, 0, 0, 0, 0, 0, 0, 0, 0, 0, 0, 0, 0, 0, 0, 0, 0, 0, 0, 0, 0, 0, 0, 0, 0, 0, 0, 0, 0, 0, 0, 0, 0, 0, 0, 0, 0, 0, ())
def snd43 (bad : Bool) (x : Tup 43) : Tup 43 × Bool := if bad then (zero43, true) else (x, false)
set_option maxRecDepth 100000 in
theorem snd_fx : FlowOk Tryz.prog 116 (lone' (cT 43)) snd43 (cT 43) := flow_sx (tbl := []) (dirty := fun _ => []) (n := 8) xmixA Tryz.func116 rfl (fun bad x Post => by cases bad <;> kernel_rfl)
def tsndN : ACt Tryz.prog nq where
 ct := flowCt Tryz.prog 116 (lone' (cT 43)) snd43 (cT 43) (go_of Tryz.func116 (by kernel_rfl) (by kernel_rfl)) snd_fx
 flow := true
 sa := [guS]
 sr := guS
 fb := unkB
 tout := true
 okF := fun _ k rest m bad τ hm hg => by
  match rest, hg with
  | [v], ⟨hv, _⟩ =>
  obtain ⟨x, rfl, _⟩ := guS_of hv
  have hd : (lone' (cT 43)).dec [(cT 43).enc x] = some x := tDec_enc 43 x
  have hsp : ∀ K : Value → Xm → Prop, K ((cT 43).enc (snd43 bad x).1) (m.set k [.bool (snd43 bad x).2]) → (flowCt Tryz.prog 116 (lone' (cT 43)) snd43 (cT 43) (go_of Tryz.func116 (by kernel_rfl) (by kernel_rfl)) snd_fx).sp (.pointer (some ⟨k, 0, none⟩) :: [(cT 43).enc x]) m K := by
   intro K hK
   unfold flowCt
   dsimp only
   split
   ·rename_i e
    cases e
    rw [hd, hm]
    exact hK
   ·rename_i hne
    exact absurd rfl (hne _ _)
  cases bad with
  | false => exact ⟨_, _, τ, hsp, ⟨_, rfl⟩, (fun e => by cases e), fun _ => .inr (.inr ⟨rfl, rfl⟩), hv, fun _ => rfl⟩
  | true => exact ⟨_, _, t4F 0 0 0 0, hsp, ⟨_, rfl⟩, fun _ => rfl, fun _ => .inl rfl, guS_g zero43, fun e => by cases e⟩
 okP := fun e => by cases e
theorem fturnN_op : ∃ g, FOp Tryz.prog nq 117 [rI 4, rI 6] quS unkB g := flow_ax (tbl := [tfparted, tqFromRod, tqMul, tuUnit]) (dirty := fun _ => []) (n := 8) nq_one xmixA Tryz.func117 rfl (by decide +kernel)
def tfturnN : ACt Tryz.prog nq := rowF true (go_of Tryz.func117 (by kernel_rfl) (by kernel_rfl)) fturnN_op (by decide +kernel)
theorem qfrmN_op : ∃ g, FOp Tryz.prog nq 199 [rI 9] quS unkB g := flow_ax (tbl := [tAdd, tuUnit, tqbyW, tqbyX, tqbyY, tqbyZ]) (dirty := fun _ => []) (n := 8) nq_one xmixA Tryz.func199 rfl (by decide +kernel)
def tqfrmN : ACt Tryz.prog nq := rowF true (go_of Tryz.func199 (by kernel_rfl) (by kernel_rfl)) qfrmN_op (by decide +kernel)
theorem dattN_op : ∃ g, FOp Tryz.prog nq 136 [rI 6, rI 6] quS unkB g := flow_ax (tbl := [tdApart, tFail, tdaxes, tdbetween, tqfrmN]) (dirty := fun _ => []) (n := 8) nq_one xmixA Tryz.func136 rfl (by decide +kernel)
theorem fmetN_op : ∃ g, FOp Tryz.prog nq 128 [rI 43, rI 36, rI 36, rI 6] guS unkB g := flow_ax (tbl := [taSolve, tfless, taApply, tfturnN, tfbiased, tfevened]) (dirty := fun _ => []) (n := 8) nq_one xmixA Tryz.func128 rfl (by decide +kernel)
def tfmetN : ACt Tryz.prog nq := rowF true (go_of Tryz.func128 (by kernel_rfl) (by kernel_rfl)) fmetN_op (by decide +kernel)
theorem fmovN_op : ∃ g, FOp Tryz.prog nq 56 [rI 43, rI 3, uI] guS unkB g := flow_ax (tbl := [tFail, tfPoints, tfmoved, tqUnit, tfaround, tfmean, tfbeside, tfproducts, tsndN, tfturnN, tfbiased, tfraised, tPart]) (dirty := fun _ => []) (n := 8) nq_one xmixA Tryz.func56 rfl (by decide +kernel)
end Go.Proofs.YtbophanlmkbfeaaGreatDoor
namespace Go.Proofs.YtbophanlmkbfeaaGreatDoor
open Go.RowKit
section
variable (F : Fs)
def biasT (g : Tup 43) : Tup 3 := (g.2.2.2.2.1, g.2.2.2.2.2.1, g.2.2.2.2.2.2.1, ())
def q4T (g : Tup 43) : Tup 4 := (g.1, g.2.1, g.2.2.1, g.2.2.2.1, ())
def filE (s : See) (g : Tup 43) (b pass : Bool) : Tup 43 × See :=
 if (F.spread b g).2 then (g, (s.1, s.2.1, s.2.2.1, s.2.2.2.1, s.2.2.2.2.1, true, pass, s.2.2.2.2.2.2.2)) else (g, (s.1, s.2.1, s.2.2.1, s.2.2.2.1, s.2.2.2.2.1, decide ((F.spread b g).1 > 274877906944), pass, s.2.2.2.2.2.2.2))
def filR (s : See) (x : Hea) (y : Sky) (r : Tup 43 × Bool) : Tup 43 × See :=
 if s.2.2.2.1 then (if s.2.2.2.2.1 then filE F s (F.meet r.2 (r.1, y.2.2, dirsW x)).1.1 (F.meet r.2 (r.1, y.2.2, dirsW x)).2 (F.meet r.2 (r.1, y.2.2, dirsW x)).1.2.2 else filE F s r.1 r.2 s.2.2.2.2.2.2.1) else filE F s r.1 r.2 s.2.2.2.2.2.2.1
def filW (g : Tup 43) (s : See) (ms : Int) (x : Hea) (y : Sky) : Tup 43 × See := if !s.2.1 then filR F s x y (F.move false (g, biasT g, ms)) else filR F s x y (F.move false (g, x.1.2.2, ms))
theorem filtered_fx (h : FsOk F) : PureOk Tryz.prog 27 (then' (cT 43) (then' cSee (then' cI (then' cHea (lone' cSky))))) (fun x => filW F x.1 x.2.1 x.2.2.1 x.2.2.2.1 x.2.2.2.2) (two' (cT 43) cSee) := pure_sx (tbl := [ctmove F h, ctmeet F h, ctdirections, ctspread F h]) (dirty := fun _ => []) (n := 4) xmixA Tryz.func27 rfl (fun x Post => by
    refine Eq.trans (b := ?m) ?x (Eq.symm ?y)
    case y => unfold filW filR filE; simp only [← vif_b (K := PJ (two' (cT 43) cSee) Post)]; exact rfl
    case x => kernel_rfl)
def ctfiltered (h : FsOk F) : Ct Tryz.prog := pureCt Tryz.prog 27 (then' (cT 43) (then' cSee (then' cI (then' cHea (lone' cSky))))) (fun x => filW F x.1 x.2.1 x.2.2.1 x.2.2.2.1 x.2.2.2.2) (two' (cT 43) cSee) (go_of Tryz.func27 (by kernel_rfl) (by kernel_rfl)) (filtered_fx F h)
def zero3 : Tup 3 := (0, 0, 0, ())
def coilW (c : Cra) : Tup 3 := if !decide (c.2.2.2.1.1 = 0) then zero3 else (F.dip false c.2.2.2.2.2.2.1).1
theorem coils_fx (h : FsOk F) : PureOk Tryz.prog 63 (lone' cCra) (fun x => coilW F x) (cT 3) := pure_sx (tbl := [ctdip F h]) (dirty := fun _ => []) (n := 4) xmixA Tryz.func63 rfl (fun x Post => by
    refine Eq.trans (b := ?m) ?x (Eq.symm ?y)
    case y => unfold coilW; simp only [← vif_b (K := PJ (cT 3) Post)]; exact rfl
    case x => kernel_rfl)
def ctcoils (h : FsOk F) : Ct Tryz.prog := pureCt Tryz.prog 63 (lone' cCra) (fun x => coilW F x) (cT 3) (go_of Tryz.func63 (by kernel_rfl) (by kernel_rfl)) (coils_fx F h)
def telT (c : Cra) (q : Tup 4 × Tup 3) : Tel := (c.2.1, c.2.2.2.1.1, c.2.2.2.1.2.2.2.2.2.1, c.2.2.2.2.2.2.2.2.1, c.2.2.2.2.2.2.2.2.2.1, c.2.2.2.2.2.2.2.2.2.2.1, q.1.1, q.1.2.1, q.1.2.2.1, q.1.2.2.2.1, q.2.1, q.2.2.1, q.2.2.2.1, ())
def noBytes : ByteArray := ⟨#[]⟩
def toldW (c : Cra) : ByteArray := if !(F.write (telT c (F.counts (q4T c.2.2.2.2.2.2.2.1, coilW F c)))).2 then noBytes else (F.wrap (F.write (telT c (F.counts (q4T c.2.2.2.2.2.2.2.1, coilW F c)))).1).1
theorem told_fx (h : FsOk F) : PureOk Tryz.prog 29 (lone' cCra) (fun x => toldW F x) cS := pure_sx (tbl := [ctcoils F h, ctcounts F h, ctwrite F h, ctwrap F h]) (dirty := fun _ => []) (n := 4) xmixA Tryz.func29 rfl (fun x Post => by
    refine Eq.trans (b := ?m) ?x (Eq.symm ?y)
    case y => unfold toldW; simp only [← vif_b (K := PJ cS Post)]; exact rfl
    case x => kernel_rfl)
def cttold (h : FsOk F) : Ct Tryz.prog := pureCt Tryz.prog 29 (lone' cCra) (fun x => toldW F x) cS (go_of Tryz.func29 (by kernel_rfl) (by kernel_rfl)) (told_fx F h)
def rejC (c : Cra) : Cra := (c.1, c.2.1, c.2.2.1, c.2.2.2.1, c.2.2.2.2.1, c.2.2.2.2.2.1, c.2.2.2.2.2.2.1, c.2.2.2.2.2.2.2.1, (c.2.2.2.2.2.2.2.2.1, c.2.2.2.2.2.2.2.2.2.1, rejW c.2.2.2.2.2.2.2.2.2.2.1, ()))
def senW (c : Cra) (h : Hea) (f : Fra) (t : Int) : Cra × Hea :=
 if !(F.read f).2 then (rejC c, h) else if !(F.fresh ((F.read f).1, t)) then (rejC c, h) else if decide ((F.read f).1.1 = 1) then (c, ((F.read f).1, h.2.1, h.2.2.1, h.2.2.2)) else if decide ((F.read f).1.1 = 2) then (c, (h.1, (F.read f).1, h.2.2.1, h.2.2.2)) else if decide ((F.read f).1.1 = 3) then (c, (h.1, h.2.1, (F.read f).1, h.2.2.2)) else (c, h)
theorem hearSensor_fx (h : FsOk F) : PureOk Tryz.prog 45 (then' cCra (then' cHea (then' cFra (lone' cI)))) (fun x => senW F x.1 x.2.1 x.2.2.1 x.2.2.2) (two' cCra cHea) := pure_sx (tbl := [ctread F h, ctfresh F h, ctrejected]) (dirty := fun _ => []) (n := 4) xmixA Tryz.func45 rfl (fun x Post => by
    refine Eq.trans (b := ?m) ?x (Eq.symm ?y)
    case y => unfold senW; simp only [← vif_b (K := PJ (two' cCra cHea) Post)]; exact rfl
    case x => kernel_rfl)
def cthearSensor (h : FsOk F) : Ct Tryz.prog := pureCt Tryz.prog 45 (then' cCra (then' cHea (then' cFra (lone' cI)))) (fun x => senW F x.1 x.2.1 x.2.2.1 x.2.2.2) (two' cCra cHea) (go_of Tryz.func45 (by kernel_rfl) (by kernel_rfl)) (hearSensor_fx F h)
def ackC (c : Cra) (q e : Int) : Cra := (c.1, c.2.1, c.2.2.1, c.2.2.2.1, c.2.2.2.2.1, c.2.2.2.2.2.1, c.2.2.2.2.2.2.1, c.2.2.2.2.2.2.2.1, (q, e, c.2.2.2.2.2.2.2.2.2.2.1, ()))
def orbC (c : Cra) (o : Tup 7) : Cra := (c.1, c.2.1, c.2.2.1, c.2.2.2.1, true, o, c.2.2.2.2.2.2.1, c.2.2.2.2.2.2.2.1, c.2.2.2.2.2.2.2.2)
def clrC (c : Cra) : Cra := (c.1, c.2.1, c.2.2.1, (c.2.2.2.1.1, c.2.2.2.1.2.1, c.2.2.2.1.2.2.1, c.2.2.2.1.2.2.2.1, c.2.2.2.1.2.2.2.2.1, 0, ()), c.2.2.2.2.1, c.2.2.2.2.2.1, c.2.2.2.2.2.2.1, c.2.2.2.2.2.2.2.1, (c.2.2.2.2.2.2.2.2.1, c.2.2.2.2.2.2.2.2.2.1, 0, ()))
def ordC (c : Cra) (h : Hea) (o : Tup 9 × Int) : Cra × Hea :=
 if !decide (o.2 = 0) then (rejC (ackC c o.1.1 o.2), h) else if decide (o.1.2.1 = 1) then (ackC c o.1.1 o.2, (h.1, h.2.1, h.2.2.1, o.1.2.1)) else if decide (o.1.2.1 = 2) then (ackC c o.1.1 o.2, (h.1, h.2.1, h.2.2.1, o.1.2.1)) else if decide (o.1.2.1 = 3) then (orbC (ackC c o.1.1 o.2) o.1.2.2, h) else if decide (o.1.2.1 = 4) then (clrC (ackC c o.1.1 o.2), h) else (ackC c o.1.1 o.2, h)
theorem hearGround_fx (h : FsOk F) : PureOk Tryz.prog 46 (then' cCra (then' cHea (lone' cFra))) (fun x => ordC x.1 x.2.1 (F.oread x.2.2)) (two' cCra cHea) := pure_sx (tbl := [ctoread F h, ctrejected]) (dirty := fun _ => []) (n := 4) xmixA Tryz.func46 rfl (fun x Post => by
    refine Eq.trans (b := ?m) ?x (Eq.symm ?y)
    case y => unfold ordC; simp only [← vif_b (K := PJ (two' cCra cHea) Post)]; exact rfl
    case x => kernel_rfl)
def cthearGround (h : FsOk F) : Ct Tryz.prog := pureCt Tryz.prog 46 (then' cCra (then' cHea (lone' cFra))) (fun x => ordC x.1 x.2.1 (F.oread x.2.2)) (two' cCra cHea) (go_of Tryz.func46 (by kernel_rfl) (by kernel_rfl)) (hearGround_fx F h)
end
end Go.Proofs.YtbophanlmkbfeaaGreatDoor
