/- A part. -/
import Derived.Test.YtlpkfmfblglceaaGreatDoorGU37
import Derived.Test.YtlpkfmfblglceaaGreatDoorGU42
namespace Go.Proofs.YtlpkfmfblglceaaGreatDoor
open Go.RowKit
theorem rnext_ok : PureOk Tryz.prog 13 (then' (cT 6) (lone' cSee)) nextT (cT 6) := fun x w hw => rnext_fx (plOf x.1, snOf x.2) w hw
def rnextCt : Ct Tryz.prog := pureCt Tryz.prog 13 (then' (cT 6) (lone' cSee)) nextT (cT 6) (go_of Tryz.func13 (by kernel_rfl) (by kernel_rfl)) rnext_ok
def andW (k x : Int) : Int := IntKind.i64.wrap ((BitVec.ofInt IntKind.i64.bits x &&& BitVec.ofInt IntKind.i64.bits k).toNat)
def bitB (i k : Int) : Bool := decide (andW k i > 0)
def seeI (i o : Int) : See := (bitB i 1, bitB i 2, bitB i 4, bitB i 8, bitB i 16, bitB i 32, bitB i 64, o)
def setO (s : See) (o : Int) : See := (s.1, s.2.1, s.2.2.1, s.2.2.2.1, s.2.2.2.2.1, s.2.2.2.2.2.1, s.2.2.2.2.2.2.1, o)
def eqPl (a b : Tup 6) : Bool := a.1 == b.1 && (a.2.1 == b.2.1 && (a.2.2.1 == b.2.2.1 && (a.2.2.2.1 == b.2.2.2.1 && (a.2.2.2.2.1 == b.2.2.2.2.1 && (a.2.2.2.2.2.1 == b.2.2.2.2.2.1 && true)))))
theorem eqPl_self (a : Tup 6) : eqPl a a = true := by unfold eqPl; simp
def badP (f : Int) : Tup 6 := (1, 0, 0, 0, 0, or4W f, ())
def qSeq (G : VQ → List Value → Xm → Prop) (Q : VQ) : VQ := fun e vt' m' => match e with
 | .normal => G Q vt' m'
 | e => Q e vt' m'
def qBlk (id : Nat) (Q : VQ) : VQ := fun e vt' m' => match e with
 | .exit id' => if id' = id then Q .normal vt' m' else Q (.exit id') vt' m'
 | e => Q e vt' m'
theorem retOf_same {P : Program} {fn : Func} {Post : Value → Prop} {Q : VQ} (h : ∀ vt m, Q .ret vt m = retQ P fn (fun v _ => Post v) .ret vt m) : retOf P fn Post Q = Q := by
 funext e vt m
 cases e <;> first | rfl | exact (h vt m).symm
def moO : Ov := fun id => match id with
 | 1 => some (cutBy Tryz.prog [rnextCt] (fun _ => []) 1 [4, 5, 13] 68 3)
 | 17 => some (cutBy Tryz.prog [rnextCt] (fun _ => []) 17 [4, 5, 13] 68 3)
 | 8 => some (cutBy Tryz.prog [rnextCt] (fun _ => []) 8 [4, 5, 10, 11, 13, 44] 68 5)
 | 14 => some (cutBy Tryz.prog [rnextCt] (fun _ => []) 14 [4, 5, 10, 11, 13, 44] 68 5)
 | _ => none
def moB (P : Program) : Code := cpart [true, false, true] (bodyOf P 12)
def moL (P : Program) : Code := cpart [false, false] (moB P)
def mo1 (P : Program) : Code := cpart [true, true, false, false] (moL P)
def mo17 (P : Program) : Code := cpart [true, true, true] (moL P)
def moR (P : Program) : Code := cpart [true, true, true, true, true] (mo1 P)
def miL (P : Program) : Code := cpart [true, true, true, true, false, true, false, false] (mo1 P)
def moZ (P : Program) : Code := cpart [true, true] (bodyOf P 12)
abbrev moS (n : Nat) (c : Code) : VQ → List Value → Xm → Prop := swpO Tryz.prog [rnextCt] (fun _ => []) n moO c
def moFn (P : Program) : Func := fnOf P 12
def moF (i : Int) (d : Nat → Value) : List Value := frm [(4, ptr 0), (5, ptr 1), (13, .int .i64 i)] d 68
def moE (i : Int) (d : Nat → Value) : List Value := vset ((moF i d).set 14 (.bool (decide (i < 256)))) (.tmp 14) false
def miF (i j : Int) (d : Nat → Value) : List Value := frm [(4, ptr 0), (5, ptr 1), (10, ptr 3), (11, ptr 4), (13, .int .i64 i), (44, .int .i64 j)] d 68
def miE (i j : Int) (d : Nat → Value) : List Value := vset ((miF i j d).set 45 (.bool (decide (j < 3)))) (.tmp 45) false
def moM (c e : Cra) (T : Tel) : Xm := [dCra.enc c, dCra.enc e, tEnc 13 T]
abbrev dSee : Dl See := then' cB (then' cB (then' cB (then' cB (then' cB (then' cB (then' cB (lone' cI)))))))
def miM (c e : Cra) (T : Tel) (s : See) (p : Tup 6) : Xm := [dCra.enc c, dCra.enc e, tEnc 13 T, dSee.enc s, tEnc 6 p]
section
variable (n : Nat) (c e : Cra) (T : Tel) (Post : Value → Prop) (Q : VQ)
set_option maxRecDepth 100000 in
theorem mi_round (i j : Int) (d : Nat → Value) (s : See) (p : Tup 6) : moS n (miL Tryz.prog) (retOf Tryz.prog (moFn Tryz.prog) Post Q) (miF i j d) (miM c e T s p) =
    vif (decide (j < 3)) (vif (eqPl (nextT (p, setO s j)) (cPlan e)) (Post (.bool true)) (68 = 68 ∧ true = true ∧ ∀ d, Q .normal (miF i (IntKind.i64.wrap (j + 1)) d) (miM c e T (setO s j) p))) (Q (.exit 2) (miE i j d) (miM c e T s p)) := by kernel_rfl
def moQ (Q : VQ) : VQ := qBlk 2 (qSeq (moS n (moR Tryz.prog)) (qBlk 1 (qSeq (moS n (mo17 Tryz.prog)) Q)))
def moI (i : Int) (p : Tup 6) : Prop := 68 = 68 ∧ true = true ∧ ∀ d, loopN n (moS n (miL Tryz.prog)) (moQ n Q) (miF i 0 d) (miM c e T (seeI i 0) p)
set_option maxRecDepth 100000 in
theorem mo_round (i : Int) (d : Nat → Value) : moS n (moL Tryz.prog) (retOf Tryz.prog (moFn Tryz.prog) Post Q) (moF i d) (moM c e T) =
    vif (decide (i < 256)) (vif (bitB i 128) (moI n c e T (retOf Tryz.prog (moFn Tryz.prog) Post Q) i (clrP (cPlan c))) (moI n c e T (retOf Tryz.prog (moFn Tryz.prog) Post Q) i (cPlan c))) (Q (.exit 0) (moE i d) (moM c e T)) := by kernel_rfl
def moN (i : Int) : Prop := 68 = 68 ∧ true = true ∧ ∀ d, Q .normal (moF (IntKind.i64.wrap (i + 1)) d) (moM c e T)
set_option maxRecDepth 100000 in
theorem mo_rest (i j : Int) (d : Nat → Value) (s : See) (p : Tup 6) : moQ n (retOf Tryz.prog (moFn Tryz.prog) Post Q) (.exit 2) (miE i j d) (miM c e T s p) =
    vif s.2.2.2.2.2.1 (vif (eqPl (cPlan e) (badP p.2.2.2.2.2.1)) (Post (.bool true)) (moN c e T Q i)) (moN c e T Q i) := by kernel_rfl
def moQ0 (Q : VQ) : VQ := qBlk 0 (qSeq (moS n (moZ Tryz.prog)) Q)
set_option maxRecDepth 100000 in
theorem mo_start (b : ByteArray) : moS n (bodyOf Tryz.prog 12) Q ((then' cCra (then' cCra (then' (cT 13) (lone' cS)))).enc (c, e, T, b) ++ List.replicate ((fnOf Tryz.prog 12).ntmps - ((then' cCra (then' cCra (then' (cT 13) (lone' cS)))).enc (c, e, T, b)).length) undef) [] =
    (68 = 68 ∧ true = true ∧ ∀ d, loopN n (moS n (moL Tryz.prog)) (moQ0 n Q) (moF 0 d) (moM c e T)) := by kernel_rfl
end
theorem moO_is (id : Nat) (R) (h : moO id = some R) : ∃ ks k, R = cutBy Tryz.prog [rnextCt] (fun _ => []) id ks 68 k := by
 unfold moO at h
 split at h
 ·exact ⟨_, _, (Option.some.inj h).symm⟩
 ·exact ⟨_, _, (Option.some.inj h).symm⟩
 ·exact ⟨_, _, (Option.some.inj h).symm⟩
 ·exact ⟨_, _, (Option.some.inj h).symm⟩
 ·cases h
theorem cuts_ov {P : Program} {tbl : List (Ct P)} {dirty : Nat → List Nat} (hm : P.follows .mixedOrders = true) {n : Nat} {ov : Ov} {w : World} (h : ∀ id R, ov id = some R → ∃ ks k, R = cutBy P tbl dirty id ks n k) (c : Code) : OvOk P ov [] w [] [] c :=
 ovOk_of _ fun r _ R hR K Q bl vt m a w hk hr hK => by
  obtain ⟨ks, k, rfl⟩ := h _ _ hR
  exact cutBy_sound hm (Nat.zero_le _) hk hr hK
def Hit (e : Cra) (i : Int) (p : Tup 6) : Prop := (∃ j ∈ ([0, 1, 2] : List Int), eqPl (nextT (p, seeI i j)) (cPlan e) = true) ∨ (bitB i 32 = true ∧ eqPl (cPlan e) (badP p.2.2.2.2.2.1) = true)
theorem w_1 : IntKind.i64.wrap (0 + 1) = 1 := rfl
theorem w_2 : IntKind.i64.wrap (1 + 1) = 2 := rfl
theorem w_3 : IntKind.i64.wrap (2 + 1) = 3 := rfl
section
variable {c e : Cra} {T : Tel} {Post : Value → Prop} {Gi Go : VQ → List Value → Xm → Prop} {P : Program} {fn : Func}
theorem mi_loop (hG : ∀ Q i j d s p, Gi (retOf P fn Post Q) (miF i j d) (miM c e T s p) = vif (decide (j < 3)) (vif (eqPl (nextT (p, setO s j)) (cPlan e)) (Post (.bool true)) (68 = 68 ∧ true = true ∧ ∀ d, Q .normal (miF i (IntKind.i64.wrap (j + 1)) d) (miM c e T (setO s j) p))) (Q (.exit 2) (miE i j d) (miM c e T s p)))
    (hP : Post (.bool true)) (k : Nat) (i : Int) (d : Nat → Value) (p : Tup 6) (Q : VQ) (h : (∀ j ∈ ([0, 1, 2] : List Int), eqPl (nextT (p, seeI i j)) (cPlan e) = false) → ∀ d, Q (.exit 2) (miE i 3 d) (miM c e T (seeI i 2) p)) :
    loopN (k + 4) Gi (retOf P fn Post Q) (miF i 0 d) (miM c e T (seeI i 0) p) := by
 rw [loop_ret, hG, decide_eq_true (by decide)]
 show vif (eqPl (nextT (p, seeI i 0)) (cPlan e)) _ _
 cases e0 : eqPl (nextT (p, seeI i 0)) (cPlan e)
 case true => exact hP
 refine ⟨rfl, rfl, fun d => ?_⟩
 dsimp only
 rw [w_1, loop_ret, hG, decide_eq_true (by decide)]
 show vif (eqPl (nextT (p, seeI i 1)) (cPlan e)) _ _
 cases e1 : eqPl (nextT (p, seeI i 1)) (cPlan e)
 case true => exact hP
 refine ⟨rfl, rfl, fun d => ?_⟩
 dsimp only
 rw [w_2, loop_ret, hG, decide_eq_true (by decide)]
 show vif (eqPl (nextT (p, seeI i 2)) (cPlan e)) _ _
 cases e2 : eqPl (nextT (p, seeI i 2)) (cPlan e)
 case true => exact hP
 refine ⟨rfl, rfl, fun d => ?_⟩
 dsimp only
 rw [w_3, loop_ret, hG, decide_eq_false (by decide)]
 refine h (fun j hj => ?_) d
 simp only [List.mem_cons, List.not_mem_nil, or_false] at hj
 rcases hj with rfl | rfl | rfl
 ·exact e0
 ·exact e1
 ·exact e2
def fromP (c : Cra) (i : Int) : Tup 6 := if bitB i 128 then clrP (cPlan c) else cPlan c
theorem mo_loop (r : Nat) (hG : ∀ Q i d, Go (retOf P fn Post Q) (moF i d) (moM c e T) = vif (decide (i < 256)) (68 = 68 ∧ true = true ∧ ∀ d, loopN (r + 4) Gi (moQ (r + 4) (retOf P fn Post Q)) (miF i 0 d) (miM c e T (seeI i 0) (fromP c i))) (Q (.exit 0) (moE i d) (moM c e T)))
    (hI : ∀ Q i j d s p, Gi (retOf P fn Post Q) (miF i j d) (miM c e T s p) = vif (decide (j < 3)) (vif (eqPl (nextT (p, setO s j)) (cPlan e)) (Post (.bool true)) (68 = 68 ∧ true = true ∧ ∀ d, Q .normal (miF i (IntKind.i64.wrap (j + 1)) d) (miM c e T (setO s j) p))) (Q (.exit 2) (miE i j d) (miM c e T s p)))
    (hR : ∀ Q, retOf P fn Post (moQ (r + 4) (retOf P fn Post Q)) = moQ (r + 4) (retOf P fn Post Q))
    (hE : ∀ Q i j d s p, moQ (r + 4) (retOf P fn Post Q) (.exit 2) (miE i j d) (miM c e T s p) = vif s.2.2.2.2.2.1 (vif (eqPl (cPlan e) (badP p.2.2.2.2.2.1)) (Post (.bool true)) (moN c e T Q i)) (moN c e T Q i))
    (hP : Post (.bool true)) (h : Nat) (hh : h < 256) (hit : Hit e h (fromP c h)) (k : Nat) : ∀ (i : Nat), i + k = h → ∀ (q : Nat) (d : Nat → Value) (Q : VQ), k < q → loopN q Go (retOf P fn Post Q) (moF i d) (moM c e T) := by
 induction k with
 | zero =>
  intro i ei q d Q hq
  obtain ⟨q, rfl⟩ : ∃ z, q = z + 1 := ⟨q - 1, by omega⟩
  obtain rfl : i = h := by omega
  rw [loop_ret, hG, decide_eq_true (by omega)]
  refine ⟨rfl, rfl, fun d => ?_⟩
  rw [← hR]
  refine mi_loop hI hP r i d _ _ (fun hn d => ?_)
  rw [hE]
  rcases hit with ⟨j, hj, ej⟩ | ⟨hb, eb⟩
  ·rw [hn j hj] at ej
   cases ej
  ·show vif (bitB i 32) _ _
   rw [hb, eb]
   exact hP
 | succ k ih =>
  intro i ei q d Q hq
  obtain ⟨q, rfl⟩ : ∃ z, q = z + 1 := ⟨q - 1, by omega⟩
  rw [loop_ret, hG, decide_eq_true (by omega)]
  refine ⟨rfl, rfl, fun d => ?_⟩
  rw [← hR]
  refine mi_loop hI hP r i d _ _ (fun _ d => ?_)
  rw [hE]
  have hnx : moN c e T (fun e vt' m' => match e with
      | .normal => loopN q Go (retOf P fn Post Q) vt' m'
      | e => Q e vt' m') i := by
   refine ⟨rfl, rfl, fun d => ?_⟩
   have hw : IntKind.i64.wrap ((i : Int) + 1) = ((i + 1 : Nat) : Int) := by
    rw [IntKind.wrap_i64]
    omega
   rw [hw]
   exact ih (i + 1) (by omega) q d Q (by omega)
  show vif (bitB i 32) _ _
  cases bitB i 32
  ·exact hnx
  ·show vif (eqPl (cPlan e) (badP (fromP c i).2.2.2.2.2.1)) _ _
   cases eqPl (cPlan e) (badP (fromP c i).2.2.2.2.2.1)
   ·exact hnx
   ·exact hP
end
def ModHeld (c e : Cra) (_ : Tel) (_ : ByteArray) : Prop := ∃ i : Nat, i < 256 ∧ Hit e i (fromP c i)
set_option maxRecDepth 100000 in
theorem modes1_ok : HeldOk 12 ModHeld := by
 intro c e T b hH w hw
 obtain ⟨h, hh, hit⟩ := hH
 obtain ⟨r, hr⟩ : ∃ r : Nat, 256 ≤ r := ⟨256, Nat.le_refl _⟩
 refine pure_atO (d := then' cCra (then' cCra (then' (cT 13) (lone' cS)))) (k := cB) (x := (c, e, T, b)) (y := true) (tbl := [rnextCt]) (dirty := fun _ => []) (n := r + 4) (ov := moO) xmixA (by kernel_rfl) (by kernel_rfl) (fun _ => cuts_ov xmixA moO_is _) ?_ w hw
 refine Eq.mpr (mo_start (r + 4) c e T _ b) ⟨rfl, rfl, fun d => ?_⟩
 have e0 : retOf Tryz.prog (moFn Tryz.prog) (fun v => v = cB.enc true) (moQ0 (r + 4) (retQ Tryz.prog (moFn Tryz.prog) (fun v _ => v = cB.enc true))) = moQ0 (r + 4) (retQ Tryz.prog (moFn Tryz.prog) (fun v _ => v = cB.enc true)) := retOf_same (fun _ _ => rfl)
 have key := mo_loop (c := c) (e := e) (T := T) (Post := fun v => v = cB.enc true) (P := Tryz.prog) (fn := moFn Tryz.prog) (Go := moS (r + 4) (moL Tryz.prog)) (Gi := moS (r + 4) (miL Tryz.prog)) r (fun Q i d => ?_) (fun Q i j d s p => mi_round (r + 4) c e T _ Q i j d s p) (fun Q => retOf_same (fun _ _ => rfl)) (fun Q i j d s p => mo_rest (r + 4) c e T _ Q i j d s p) rfl h hh hit h 0 (by omega) (r + 4) d (moQ0 (r + 4) (retQ Tryz.prog (moFn Tryz.prog) (fun v _ => v = cB.enc true))) (by omega)
 ·rw [e0] at key
  exact key
 rw [mo_round]
 unfold moI fromP
 cases bitB i 128 <;> rfl
def bN (b : Bool) (k : Nat) : Nat := if b then k else 0
def idx (a b c d e f g h : Bool) : Nat := bN a 1 + bN b 2 + bN c 4 + bN d 8 + bN e 16 + bN f 32 + bN g 64 + bN h 128
theorem idx_at : ∀ a b c d e f g h : Bool, idx a b c d e f g h < 256 ∧ bitB (idx a b c d e f g h) 1 = a ∧ bitB (idx a b c d e f g h) 2 = b ∧ bitB (idx a b c d e f g h) 4 = c ∧ bitB (idx a b c d e f g h) 8 = d ∧ bitB (idx a b c d e f g h) 16 = e ∧ bitB (idx a b c d e f g h) 32 = f ∧ bitB (idx a b c d e f g h) 64 = g ∧ bitB (idx a b c d e f g h) 128 = h := by decide +kernel
theorem next_two {p : Tup 6} {s : See} (h : (nextT (p, s)).1 = 2) (hp : p.1 ≠ 2) : (nextT (p, s)).2.2.2.2.2.1 = p.2.2.2.2.2.1 := by
 show (nextW (plOf p) (snOf s)).faults = (plOf p).faults
 have h : (nextW (plOf p) (snOf s)).mode = 2 := h
 have hp : (plOf p).mode ≠ 2 := hp
 generalize plOf p = q at h hp ⊢
 generalize snOf s = z at h ⊢
 unfold nextW nextV at h ⊢
 split at h
 ·exact absurd h (by show ¬ (3 : Int) = 2; decide)
 rename_i ho
 rw [if_neg ho]
 split at h
 ·rename_i h3
  rw [if_pos h3]
  unfold safeS at h ⊢
  split at h
  ·exact absurd h (by show ¬ (0 : Int) = 2; decide)
  ·exact absurd h hp
 rename_i h3
 rw [if_neg h3]
 split at h
 ·rename_i h0
  rw [if_pos h0]
  unfold detW at h ⊢
  split at h
  ·exact absurd h (by show ¬ (1 : Int) = 2; decide)
  ·exact absurd h hp
 rename_i h0
 rw [if_neg h0]
 split at h
 ·rename_i h1
  rw [if_pos h1]
  cases hg : z.gap
  ·rw [hg] at h
   simp only [cond_false] at h ⊢
   unfold coaW at h ⊢
   cases hs : (z.gyro && !z.slow)
   ·rw [hs] at h
    simp only [cond_false] at h ⊢
    split at h
    ·rename_i h2
     rw [if_pos h2]
     rfl
    ·exact absurd h hp
   ·rw [hs] at h
    exact absurd h (by show ¬ (0 : Int) = 2; decide)
  ·rw [hg] at h
   exact absurd h (by show ¬ (1 : Int) = 2; decide)
 exact absurd h (by show ¬ (3 : Int) = 2; decide)
theorem modes_all {F : Fs} : HeldAll F ModHeld := by
 intro c t b _ _ _ k
 obtain ⟨p, s, hp, _, ho, hi, hn⟩ := k.plan
 have ho3 : s.2.2.2.2.2.2.2 ∈ ([0, 1, 2] : List Int) := by
  unfold OrdI at hi
  rw [← ho] at hi
  simpa using hi
 obtain ⟨q, hq⟩ : ∃ q : Bool, p = (if q then clrP (cPlan c) else cPlan c) := by
  rcases hp with e | e
  ·exact ⟨false, e⟩
  ·exact ⟨true, e⟩
 rcases hn with e | ⟨e2, e3, e⟩
 ·obtain ⟨h256, h1, h2, h4, h8, h16, h32, h64, h128⟩ := idx_at s.1 s.2.1 s.2.2.1 s.2.2.2.1 s.2.2.2.2.1 s.2.2.2.2.2.1 s.2.2.2.2.2.2.1 q
  refine ⟨_, h256, .inl ⟨_, ho3, ?_⟩⟩
  unfold fromP seeI
  rw [h1, h2, h4, h8, h16, h32, h64, h128, ← hq, e]
  exact eqPl_self _
 ·obtain ⟨h256, h1, h2, h4, h8, h16, h32, h64, h128⟩ := idx_at false false false false false true false q
  refine ⟨_, h256, .inr ⟨h32, ?_⟩⟩
  unfold fromP
  rw [h128, ← hq, e, next_two e2 e3]
  exact eqPl_self _
end Go.Proofs.YtlpkfmfblglceaaGreatDoor
