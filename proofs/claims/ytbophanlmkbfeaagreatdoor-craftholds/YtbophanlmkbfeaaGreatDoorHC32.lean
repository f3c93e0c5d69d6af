/-
A part.
A part.
A part.
A part.
A part.
A part.
A part.
A part.
-/
import Derived.Laws.StructEq
import Derived.ChangeKeysEq
import Derived.Laws.ResultCell
import Derived.RegionTactic
import Derived.BigRegion
import Derived.Test.YtbophanlmkbfeaaGreatDoorHC31
import Derived.Test.YtbophanlmkbfeaaGreatDoorHC02
import Derived.Test.YtbophanlmkbfeaaGreatDoorHC19
import Derived.Test.YtbophanlmkbfeaaGreatDoorHC14
namespace Go.Proofs.YtbophanlmkbfeaaGreatDoor
open Go.RowKit
theorem filE_keeps (F : Fs) (s : See) (g : Tup 43) (b pass : Bool) : (filE F s g b pass).2.1 = s.1 ∧ (filE F s g b pass).2.2.2.2.2.2.2.2 = s.2.2.2.2.2.2.2 := by
 unfold filE
 split
 ·exact ⟨rfl, rfl⟩
 ·exact ⟨rfl, rfl⟩
theorem filR_keeps (F : Fs) (s : See) (x : Hea) (y : Sky) (r : Tup 43 × Bool) : (filR F s x y r).2.1 = s.1 ∧ (filR F s x y r).2.2.2.2.2.2.2.2 = s.2.2.2.2.2.2.2 := by
 unfold filR
 split
 ·split
  ·exact filE_keeps ..
  ·exact filE_keeps ..
 ·exact filE_keeps ..
theorem filW_keeps (F : Fs) (g : Tup 43) (s : See) (ms : Int) (x : Hea) (y : Sky) : (filW F g s ms x y).2.1 = s.1 ∧ (filW F g s ms x y).2.2.2.2.2.2.2.2 = s.2.2.2.2.2.2.2 := by
 unfold filW
 split
 ·exact filR_keeps ..
 ·exact filR_keeps ..
theorem decW_keeps (F : Fs) (c : Cra) (t : Int) (x : Hea) (y : Sky) : (decW F c t x y).1 = !goesW c t ∧ (decW F c t x y).2.2.2.2.2.2.2 = x.2.2.2 := by
 unfold decW
 split
 ·split
  ·exact ⟨rfl, rfl⟩
  ·exact ⟨rfl, rfl⟩
 ·split
  ·exact ⟨rfl, rfl⟩
  ·exact ⟨rfl, rfl⟩
theorem goW_is (F : Fs) (c : Cra) (x : Hea) (t : Int) : ∃ g s, goW F c x t = endW F (setGue c g) s x (skyW F c t) t ∧ s.1 = !goesW c t ∧ s.2.2.2.2.2.2.2 = x.2.2.2 := by
 have hd := decW_keeps F c t x (skyW F c t)
 unfold goW
 split
 ·split
  ·have hf := filW_keeps F c.2.2.2.2.2.2.2.1 (decW F c t x (skyW F c t)) (IntKind.i64.wrap (t - c.2.1)) x (skyW F c t)
   exact ⟨_, _, rfl, hf.1.trans hd.1, hf.2.trans hd.2⟩
  ·exact ⟨cGues c, _, rfl, hd.1, hd.2⟩
 ·exact ⟨cGues c, _, rfl, hd.1, hd.2⟩
theorem entW_is (F : Fs) (p a b : Tup 6) : (entW F p a b).1 = p ∨ (entW F p a b).1 = (1, 0, 0, 0, 0, or4W p.2.2.2.2.2.1, ()) := by
 unfold entW
 split
 ·exact .inr rfl
 ·exact .inl rfl
theorem plan_is {F : Fs} (hF : FsIs F) (c : Cra) (s : See) (x : Hea) (y : Sky) :
    (planW F c s x y).1 = nextT (cPlan c, s) ∨ ((nextT (cPlan c, s)).1 = 2 ∧ (cPlan c).1 ≠ 2 ∧ (planW F c s x y).1 = (1, 0, 0, 0, 0, or4W (nextT (cPlan c, s)).2.2.2.2.2.1, ())) := by
 unfold planW
 rw [hF.next]
 split
 ·exact .inl rfl
 rename_i h2
 split
 ·exact .inl rfl
 rename_i h3
 rcases entW_is F (nextT (cPlan c, s)) y.2.2 (dirsW x) with e | e
 ·exact .inl e
 ·refine .inr ⟨?_, ?_, e⟩
  ·simpa using h2
  ·simpa using h3
theorem plan_in {F : Fs} (hF : FsIs F) {c : Cra} (h : PlI (plOf (cPlan c))) (s : See) (x : Hea) (y : Sky) : PlI (plOf (planW F c s x y).1) := by
 have hn : PlI (plOf (nextT (cPlan c, s))) := h.step (snOf s)
 rcases plan_is hF c s x y with e | ⟨_, _, e⟩
 ·rw [e]
  exact hn
 ·rw [e]
  exact hn.fail 4 (by decide)
theorem tcS_in (r : Int × Bool) : inR (tcS r).1 (-32768) 32767 = true := by
 unfold tcS
 split
 ·assumption
 ·rfl
theorem tlC_in (q : Int × Int × Int × Int) (m : V3) : inR (tlC q m).1.1 (-32768) 32767 = true ∧ inR (tlC q m).1.2.1 (-32768) 32767 = true ∧ inR (tlC q m).1.2.2.1 (-32768) 32767 = true ∧ inR (tlC q m).1.2.2.2 (-32768) 32767 = true ∧ inR (tlC q m).2.1 (-32768) 32767 = true ∧ inR (tlC q m).2.2.1 (-32768) 32767 = true ∧ inR (tlC q m).2.2.2 (-32768) 32767 = true := by
 unfold tlC
 dsimp only
 split
 ·exact ⟨rfl, rfl, rfl, rfl, rfl, rfl, rfl⟩
 ·exact ⟨tcS_in _, tcS_in _, tcS_in _, tcS_in _, tcS_in _, tcS_in _, tcS_in _⟩
structure CInv (c : Cra) : Prop where
 t : cRight c.2.1 = true
 p : PlI (plOf (cPlan c))
 off : c.1 = false → (cPlan c).1 = 0
 ak : AkI (cAcks c)
theorem CInv.zero : CInv zeroCra := ⟨rfl, ⟨i64_0, i64_0, i64_0, i64_0, Int.le_refl 0, show (0 : Int) ≤ 3 by decide, Int.le_refl 0, show (0 : Int) ≤ 15 by decide⟩, fun _ => rfl, ⟨Int.le_refl 0, show (0 : Int) ≤ 255 by decide, Int.le_refl 0, show (0 : Int) ≤ 255 by decide, Int.le_refl 0, show (0 : Int) ≤ 65535 by decide⟩⟩
def telF (F : Fs) (c : Cra) : Tel := telT c (countsT (q4T (cGues c), coilW F c))
theorem tel_ok (F : Fs) {c : Cra} (h : CInv c) : tlOk (tlOf (telF F c)) = true := by
 obtain ⟨h1, h2, h3, h4, h5, h6, h7⟩ := tlC_in ((q4T (cGues c)).1, (q4T (cGues c)).2.1, (q4T (cGues c)).2.2.1, (q4T (cGues c)).2.2.2.1) ((coilW F c).1, (coilW F c).2.1, (coilW F c).2.2.1)
 have a := h.t
 have b : inR (cPlan c).1 0 3 = true := inR_iff.2 ⟨h.p.m0, h.p.m3⟩
 have d : inR (cPlan c).2.2.2.2.2.1 0 15 = true := inR_iff.2 ⟨h.p.f0, h.p.f9⟩
 have e : inR (cAcks c).1 0 255 = true := inR_iff.2 ⟨h.ak.a0, h.ak.a1⟩
 have f : inR (cAcks c).2.1 0 255 = true := inR_iff.2 ⟨h.ak.e0, h.ak.e1⟩
 have g : inR (cAcks c).2.2.1 0 65535 = true := inR_iff.2 ⟨h.ak.r0, h.ak.r1⟩
 show (cRight c.2.1 && inR (cPlan c).1 0 3 && inR (cPlan c).2.2.2.2.2.1 0 15 && inR (cAcks c).1 0 255 && inR (cAcks c).2.1 0 255 && inR (cAcks c).2.2.1 0 65535 && _ && _ && _ && _ && _ && _ && _) = true
 rw [a, b, d, e, f, g]
 exact (congrArg (fun z => z && _ && _ && _ && _ && _ && _) h1).trans ((congrArg (fun z => z && _ && _ && _ && _ && _) h2).trans ((congrArg (fun z => z && _ && _ && _ && _) h3).trans ((congrArg (fun z => z && _ && _ && _) h4).trans ((congrArg (fun z => z && _ && _) h5).trans ((congrArg (fun z => z && _) h6).trans h7)))))
def tailOf (T : Tl) : List UInt8 := (wrapL 32 (strOf (tlL T)).data.toList).drop 1
def bytesOf (T : Tl) : ByteArray := ⟨⟨165 :: tailOf T⟩⟩
theorem tlStr_size (T : Tl) : (strOf (tlL T)).size = 26 := rfl
theorem told_is {F : Fs} (hF : FsIs F) {c : Cra} (h : CInv c) : toldW F c = bytesOf (tlOf (telF F c)) := by
 have ok := tel_ok F h
 unfold toldW
 rw [hF.write, hF.counts, hF.wrap]
 show (if (!(writeT (telF F c)).2) = true then noBytes else (wrapT (writeT (telF F c)).1).1) = _
 have e2 : (writeT (telF F c)).2 = true := ok
 have e1 : (writeT (telF F c)).1 = (32, strOf (tlL (tlOf (telF F c)))) := by
  show tlW (tlOf (telF F c)) = _
  unfold tlW
  rw [if_pos ok]
 rw [e2, e1]
 show (wrapT (32, strOf (tlL (tlOf (telF F c))))).1 = _
 unfold wrapT
 rw [if_pos ⟨by dsimp only; decide, by dsimp only; decide, by dsimp only; rw [tlStr_size]; decide⟩]
 rfl
structure Took (F : Fs) (c : Cra) (t : Int) (b : ByteArray) (d : Cra) : Prop where
 right : cRight t = true
 late : c.1 = true → c.2.1 < t
 inv : CInv d
 tick : d.2.1 = t
 on : d.1 = true
 left : d.2.2.1 = restOf (c.2.2.1 ++ b).data.toList
 plan : ∃ p s, (p = cPlan c ∨ p = clrP (cPlan c)) ∧ (s.1 = !goesW c t) ∧ s.2.2.2.2.2.2.2 = (takeW F c t b).2.2.2.2 ∧ OrdI (takeW F c t b).2 ∧ (cPlan d = nextT (p, s) ∨ ((nextT (p, s)).1 = 2 ∧ p.1 ≠ 2 ∧ cPlan d = (1, 0, 0, 0, 0, or4W (nextT (p, s)).2.2.2.2.2.1, ())))
theorem goesW_same {c d : Cra} (h1 : d.1 = c.1) (h2 : d.2.1 = c.2.1) (t : Int) : goesW d t = goesW c t := by
 unfold goesW
 rw [h1, h2]
def stays (c : Cra) (t : Int) : Bool := !cRight t || (c.1 && decide (t ≤ c.2.1))
theorem stays_yes {F : Fs} (hF : FsIs F) {c : Cra} {t : Int} (h : stays c t = true) (b : ByteArray) : stepF F c t b = (c, noBytes) := by
 unfold stays at h
 unfold stepF stepW
 rw [hF.right]
 cases hr : cRight t
 ·rfl
 ·rw [hr] at h
  simp only [Bool.not_true, Bool.false_or, Bool.and_eq_true] at h
  simp only [Bool.not_true, Bool.false_eq_true, if_false]
  rw [if_pos h.1, if_pos h.2]
theorem stays_no {F : Fs} (hF : FsIs F) {c : Cra} {t : Int} (h : stays c t = false) (b : ByteArray) : stepF F c t b = stepR F (fun _ => takeW F c t b) c t b ∧ cRight t = true ∧ (c.1 = true → c.2.1 < t) := by
 unfold stays at h
 unfold stepF stepW
 rw [hF.right]
 cases hr : cRight t
 ·rw [hr] at h; cases h
 ·rw [hr] at h
  simp only [Bool.not_true, Bool.false_or] at h
  simp only [Bool.not_true, Bool.false_eq_true, if_false]
  cases hc : c.1
  ·exact ⟨rfl, by trivial, fun h => by cases h⟩
  ·rw [hc] at h
   simp only [Bool.true_and] at h
   simp only [if_true]
   rw [h]
   exact ⟨rfl, by trivial, fun _ => by have := of_decide_eq_false h; omega⟩
theorem took_of {F : Fs} (hF : FsIs F) {c : Cra} (hI : CInv c) (t : Int) (b : ByteArray) (hr : cRight t = true) (hl : c.1 = true → c.2.1 < t) :
    Took F c t b (stepR F (fun _ => takeW F c t b) c t b).1 ∧ (stepR F (fun _ => takeW F c t b) c t b).2 = bytesOf (tlOf (telF F (stepR F (fun _ => takeW F c t b) c t b).1)) := by
 obtain ⟨hm, ho⟩ := take_mid hF c hI.ak t b
 unfold stepR
 dsimp only
 have hpO : ∀ x, x = (takeW F c t b).2 → x.2.2.2 = (takeW F c t b).2.2.2.2 ∧ OrdI (takeW F c t b).2 := fun x e => by rw [e]; exact ⟨rfl, ho⟩
 generalize hT : takeW F c t b = T at hm ho ⊢
 obtain ⟨c1, x⟩ := T
 dsimp only at hm ho ⊢
 generalize driftW F c1.2.2.2.2.2.2.1 x = dr
 obtain ⟨g, s, e, hg, hs⟩ := goW_is F (setDri c1 dr) x t
 rw [e]
 generalize skyW F (setDri c1 dr) t = y
 have hp : PlI (plOf (cPlan (setGue (setDri c1 dr) g))) := by
  show PlI (plOf (cPlan c1))
  rcases hm.plan with e | e <;> rw [e]
  ·exact hI.p
  ·exact ⟨hI.p.c, hI.p.g, hI.p.i, hI.p.l, hI.p.m0, hI.p.m3, Int.le_refl 0, show (0 : Int) ≤ 15 by decide⟩
 have hq := plan_in hF hp s x y
 have hpl := plan_is hF (setGue (setDri c1 dr) g) s x y
 unfold endW
 dsimp only
 generalize planW F (setGue (setDri c1 dr) g) s x y = P at hq hpl ⊢
 have hi : CInv (setEnd (setGue (setDri c1 dr) g) t P.1 P.2) := ⟨hr, hq, fun h => Bool.noConfusion h, hm.ak⟩
 have hpx := hpO x (by rw [hT])
 refine ⟨⟨hr, hl, hi, rfl, rfl, hm.left, cPlan c1, s, hm.plan, ?_, hs.trans hpx.1, hpx.2, hpl⟩, told_is hF hi⟩
 rw [hg]
 exact congrArg _ (goesW_same hm.on hm.tick t)
theorem took {F : Fs} (hF : FsIs F) {c : Cra} (hI : CInv c) {t : Int} (b : ByteArray) (h : stays c t = false) :
    Took F c t b (stepF F c t b).1 ∧ (stepF F c t b).2 = bytesOf (tlOf (telF F (stepF F c t b).1)) := by
 obtain ⟨e, hr, hl⟩ := stays_no hF h b
 rw [e]
 exact took_of hF hI t b hr hl
end Go.Proofs.YtbophanlmkbfeaaGreatDoor
namespace Go.Proofs.YtbophanlmkbfeaaGreatDoor
open Go.RowKit
def selfOk (P : Program) : Nat → TypeId → Value → Bool
 | 0, _, _ => false
 | d + 1, t, v => match P.underlying t, v with
  | some .bool, .bool _ => true
  | some (.int _), .int _ _ => true
  | some .string, .string _ => true
  | some (.struct fs), .agg xs => !P.stoodInHeld t && fs.toList.all fun f => match qrun P (part f.type xs f.offset) with
   | some u => selfOk P d f.type u
   | none => false
  | some (.array n e), .agg xs => (P.info? e).isSome && (List.range n).all fun i => match qrun P (part e xs (i * P.cellsOf e)) with
   | some u => selfOk P d e u
   | none => false
  | _, _ => false
section
variable {P : Program}
def SelfAt (P : Program) (d : Nat) : Prop := ∀ t v, selfOk P d t v = true → ∀ (k : Nat) (w : World), (Op.equalIn (k + d) t v v).run P w = .ok true w
theorem fields_self {d k : Nat} (ih : SelfAt P d) (xs : Array Value) (w : World) : ∀ fs : List Field, (fs.all fun f => match qrun P (part f.type xs f.offset) with
      | some u => selfOk P d f.type u
      | none => false) = true → (Op.eqFields (k + d) xs xs fs).run P w = .ok true w
 | [], _ => by simp [Op.eqFields]
 | f :: fs, h => by
  rw [List.all_cons, Bool.and_eq_true] at h
  have ih2 := fields_self (k := k) ih xs w fs h.2
  have h1 := h.1
  unfold Op.eqFields
  split
  ·split at h1
   ·rename_i u hu
    have p := qrun_run _ hu w
    have e := ih _ _ h1 k w
    simp only [Sem.run_bind, p, Result.andThen_ok, e, Bool.not_true, Bool.false_eq_true, if_false, ih2]
   ·cases h1
  ·exact ih2
theorem items_self {d k : Nat} (ih : SelfAt P d) (e : TypeId) (xs : Array Value) (w : World) : ∀ is : List Nat, (is.all fun i => match qrun P (part e xs (i * P.cellsOf e)) with
      | some u => selfOk P d e u
      | none => false) = true → (Op.eqItems (k + d) e (P.cellsOf e) xs xs is).run P w = .ok true w
 | [], _ => by simp [Op.eqItems]
 | i :: is, h => by
  rw [List.all_cons, Bool.and_eq_true] at h
  have ih2 := items_self (k := k) ih e xs w is h.2
  have h1 := h.1
  unfold Op.eqItems
  split at h1
  ·rename_i u hu
   have p := qrun_run _ hu w
   have e := ih _ _ h1 k w
   simp only [Sem.run_bind, p, Result.andThen_ok, e, Bool.not_true, Bool.false_eq_true, if_false, ih2]
  ·cases h1
theorem self_at : ∀ d, SelfAt P d
 | 0 => fun t v h => by cases h
 | d + 1 => fun t v h k w => by
  have ih := self_at d
  unfold selfOk at h
  split at h
  ·rename_i hu
   rw [← Nat.add_assoc, run_equalIn_bool' w _ _ _ _ hu]
   simp
  ·rename_i hu
   rw [← Nat.add_assoc, run_equalIn_int w _ _ _ _ _ _ hu]
   simp
  ·rename_i hu
   rw [← Nat.add_assoc, run_equalIn_string w _ _ _ _ hu]
   simp
  ·rename_i fs xs hu
   rw [Bool.and_eq_true] at h
   have hf : P.fieldsOf t = fs := by unfold Program.fieldsOf; rw [hu]
   rw [← Nat.add_assoc, run_equalIn_struct w _ _ _ _ (by rw [hf]; exact hu) (by simpa using h.1), hf]
   exact fields_self ih xs w _ h.2
  ·rename_i n e xs hu
   rw [Bool.and_eq_true] at h
   obtain ⟨i, hi⟩ := Option.isSome_iff_exists.1 h.1
   rw [← Nat.add_assoc, run_equalIn_array w _ _ _ hu hi]
   exact items_self ih e xs w _ h.2
  ·cases h
end
end Go.Proofs.YtbophanlmkbfeaaGreatDoor
namespace Go.Proofs.YtbophanlmkbfeaaGreatDoor
open Go.RowKit
structure Recs (w0 : World) (B : Nat) (ao : Option Addr) (n cap : Nat) (L : Nat → Int × ByteArray) (sl : Value) : Prop where
 rv : ∀ bl : Bl, bl[0]? = some (some B) → RV bl sl (.slice ao n cap)
 ok : ptrOk 1 sl = true
 lies : B < w0.heap.size
 idx : ∀ {i}, i < n → sl ≠ .nilIface
 at_ : ∀ i, i < n → ∃ o, ao = some ⟨B, o, none⟩ ∧ w0.cell? ⟨B, o + i * 2, none⟩ = some (.int .i64 (L i).1) ∧ w0.cell? ⟨B, o + i * 2 + 1, none⟩ = some (.string (L i).2)
theorem cell_old {w0 w : World} {B : Nat} (h : w.heap[B]? = w0.heap[B]?) (o : Nat) : w.cell? ⟨B, o, none⟩ = w0.cell? ⟨B, o, none⟩ := by
 unfold World.cell?
 rw [h]
theorem load_two {P : Program} {t : TypeId} {B o : Nat} {w : World} {x y : Value} (ha : qrun P (isAgg t) = some true) (hz : qrun P (sizeOf t) = some 2) (h0 : w.cell? ⟨B, o, none⟩ = some x) (h1 : w.cell? ⟨B, o + 1, none⟩ = some y) : (loadVar t ⟨B, o, none⟩).run P w = .ok (.agg #[x, y]) w := by
 have r1 := qrun_run _ ha w
 have r2 := qrun_run _ hz w
 unfold loadVar
 simp [Sem.run_bind, r1, r2, loadCells, loadCellsFrom, load, Sem.run, add_is, h0, h1]
def eRec (sS sI d0 d1 d2 kN N : Nat) (n : Nat) (L : Nat → Int × ByteArray) (sl : Value) (K : List Value → Xm → Prop) (vt : List Value) (m : Xm) : Prop :=
 match vt.getD sI undef with
 | .int .i64 i => (0 ≤ i ∧ i.toNat < n) ∧ vt.getD sS undef = sl ∧ m.length = kN ∧ vt.length = N ∧ K (((vt.set d0 .nilIface).set d1 .nilIface).set d2 (.pointer (some ⟨kN, 0, none⟩))) (m ++ [[.int .i64 (L i.toNat).1, .string (L i.toNat).2]])
 | _ => False
theorem eRec_sound {bs : List Nat} {w0 : World} {ds : List Deferred} {bl0 : Bl} {K : List Value → Xm → Prop} {Q : Exit → Act → World → Prop} {bl : Bl} {vt : List Value} {m : Xm} {a : Act} {w : World} {B : Nat} {ao : Option Addr} {n cap : Nat} {L : Nat → Int × ByteArray} {sl : Value} {ops : Array Oper} {id : Nat} {o0 o1 o2 o3 : Oper} {tS tR : TypeId} {sS sI d0 d1 d2 kN N : Nat} (n0 : d0 < N) (n1 : d1 < N) (n2 : d2 < N) (n3 : d2 ≠ d1) (hb0 : bl0[0]? = some (some B)) (hr : Recs w0 B ao n cap L sl) (hu : Tryz.prog.underlying tS = some (.slice tR)) (hz : qrun Tryz.prog (sizeOf tR) = some 2) (ha : qrun Tryz.prog (isAgg tR) = some true) {z : Value} (hzv : qrun Tryz.prog (zeroValue tR) = some z) (hzl : z.cells.toList.length = 2) (ho : ops = #[o0, o1, o2, o3])
    (h0 : o0.dst = some d0 ∧ o0.op = .indexAddr tS (.tmp sS) (.tmp sI) ∧ o0.guard = none) (h1 : o1.dst = some d1 ∧ o1.op = .load tR (.tmp d0) ∧ o1.guard = none) (h2 : o2.dst = some d2 ∧ o2.op = .alloc tR ∧ o2.guard = none) (h3 : o3.dst = none ∧ o3.op = .store tR (.tmp d2) (.tmp d1) ∧ o3.guard = none)
    (h : eRec sS sI d0 d1 d2 kN N n L sl K vt m) (r : Rl bs w0 ds bl0 bl vt m a w) (hK : ∀ bl vt m a w, K vt m → Rl bs w0 ds bl0 bl vt m a w → Q .normal a w) (hbs : B ∉ bs := by simp) : (Code.region id ops false).wp Tryz.prog Q a w := by
 subst ho
 have hlen := r.F.len
 unfold eRec at h
 split at h
 case h_2 => exact h.elim
 rename_i i hi
 obtain ⟨⟨hi0, hil⟩, hsl, hm5, hlt, hk⟩ := h
 rw [hlt] at hlen
 have hiv := r.F.rv sI
 rw [hi] at hiv
 have EsI : a.eval (.tmp sI) = .int .i64 i := hiv
 have hsv := r.F.rv sS
 rw [hsl] at hsv
 obtain ⟨o, rfl, c0, c1⟩ := hr.at_ i.toNat hil
 have EsS : a.eval (.tmp sS) = .slice (some ⟨B, o, none⟩) n cap := by
  have h1 := hr.rv bl (r.le 0 B hb0)
  match sl, h1, hsv with
  | .slice (some b) _ _, ⟨B1, hB1, e1⟩, ⟨B2, hB2, e2⟩ =>
   rw [hB1] at hB2
   cases hB2
   exact e2.trans e1.symm
  | .slice none _ _, h1, _ => cases h1
  | .nilIface, h1, _ => exact absurd (hr.idx hil) (by simp)
  | .pointer (some _), ⟨_, _, e1⟩, _ => cases e1
  | .pointer none, h1, _ => cases h1
  | .bool _, h1, _ => cases h1
  | .int _ _, h1, _ => cases h1
  | .float _ _, h1, _ => cases h1
  | .complex _ _ _, h1, _ => cases h1
  | .string _, h1, _ => cases h1
  | .map _, h1, _ => cases h1
  | .chan _, h1, _ => cases h1
  | .func _ _ _, h1, _ => cases h1
  | .nilFunc, h1, _ => cases h1
  | .iface _ _, h1, _ => cases h1
  | .agg _, h1, _ => cases h1
  | .tuple _, h1, _ => cases h1
 have hB : w.heap[B]? = w0.heap[B]? := r.R.block B hr.lies hbs
 rw [← cell_old hB] at c0 c1
 have rld := load_two (P := Tryz.prog) ha hz c0 c1
 have F := r.F
 have D := r.defers
 refine wp_region ?_
 have hil' : i < (n : Int) := by omega
 have r0 := run_under hu w
 have r1 := qrun_run _ hz w
 refine ops_valS (v := .nilIface) (v' := (.pointer (some ⟨B, o + i.toNat * 2, none⟩))) (w' := w) rfl h0.1 (unguarded h0.2.2) (by simp [execOp, h0.2.1, EsS, EsI, Instr.indexAt, asIntOf, r0, r1, hi0, hil', add_is, Sem.run_bind]) F D hlen n0 (rfl) fun a F D hlen Ed0 X => ?_
 refine ops_valS (v := .nilIface) (v' := (.agg #[.int .i64 (L i.toNat).1, .string (L i.toNat).2])) (w' := w) rfl h1.1 (unguarded h1.2.2) (by simp [execOp, h1.2.1, Ed0, Instr.loadAt, Instr.sureAddr, rld]) F D hlen n1 (rfl) fun a F D hlen Ed1 X => ?_
 have hw3 : (execOp a.eval o2).run Tryz.prog w = .ok (.value (.pointer (some ⟨w.heap.size, 0, none⟩))) (w.alloc (.cells z.cells.toList.toArray tR)) := by
  have r := qrun_run _ hzv w
  simp [execOp, h2.2.1, Instr.alloc, newVar, newRow, newObj, r, Sem.run]
 have hbl : bl.length = kN := r.len.trans hm5
 have WW := r.R.wide 1 [[.int .i64 (L i.toNat).1, .string (L i.toNat).2]]
 obtain ⟨N, hle⟩ := WW.new (k := kN) (by rw [List.getElem?_append_right (by omega), hbl, Nat.sub_self]; rfl) (by rw [List.length_append, hm5]; exact Nat.lt_succ_self kN) z.cells.toList tR
 have hg5 : ((bl ++ List.replicate 1 none).set kN (some w.heap.size))[kN]? = some (some w.heap.size) := List.getElem?_set_self (by rw [List.length_append, hbl]; exact Nat.lt_succ_self kN)
 have hm6 : ((m ++ [[Value.int .i64 (L i.toNat).1, Value.string (L i.toNat).2]]).set kN z.cells.toList)[kN]? = some z.cells.toList := List.getElem?_set_self (by rw [List.length_append, hm5]; exact Nat.lt_succ_self kN)
 obtain ⟨row, e5, A5⟩ := N.arr kN _ hg5
 rw [hm6] at e5
 cases e5
 have hst : storeV Tryz.prog tR z.cells.toList 0 (.agg #[.int .i64 (L i.toNat).1, .string (L i.toNat).2]) = some (setAt z.cells.toList 0 [.int .i64 (L i.toNat).1, .string (L i.toNat).2]) := by
  unfold storeV
  rw [hz]
  dsimp only
  rw [if_pos (by rw [hzl]; rfl)]
  rfl
 obtain ⟨r3, _, hl3⟩ := storeV_run hst A5
 have hL : Le bl ((bl ++ List.replicate 1 none).set kN (some w.heap.size)) := (Le.wide bl 1).trans hle
 have F := F.mono hL
 refine ops_valS (v := .pointer (some ⟨kN, 0, none⟩)) rfl h2.1 (unguarded h2.2.2) hw3 F D hlen n2 (RV.at hg5 0) fun a F D hlen Ed2 X => ?_
 have Ed1 := (X d1 n3).trans Ed1
 refine ops_skip (o := o3) (w' := wset (w.alloc (.cells z.cells.toList.toArray tR)) w.heap.size 0 [.int .i64 (L i.toNat).1, .string (L i.toNat).2]) rfl h3.2.2 ?_ ?_
 ·simp [execOp, h3.2.1, Ed2, Ed1, Instr.storeAt, Instr.sureAddr, r3]
  rfl
 rw [h3.1]
 have hrow5 : setAt z.cells.toList 0 [.int .i64 (L i.toNat).1, .string (L i.toNat).2] = [.int .i64 (L i.toNat).1, .string (L i.toNat).2] := by
  match z.cells.toList, hzl with
  | [_, _], _ => rfl
 have R5 := N.store hg5 hm6 0 [.int .i64 (L i.toNat).1, .string (L i.toNat).2] hl3
 rw [hrow5] at R5
 have hmm : ((m ++ [[Value.int .i64 (L i.toNat).1, Value.string (L i.toNat).2]]).set kN z.cells.toList).set kN [Value.int .i64 (L i.toNat).1, Value.string (L i.toNat).2] = m ++ [[Value.int .i64 (L i.toNat).1, Value.string (L i.toNat).2]] := by
  rw [List.set_set, List.set_append_right _ _ (by omega), hm5, Nat.sub_self]
  rfl
 rw [hmm] at R5
 exact hK _ _ _ _ _ hk ⟨F, R5, r.le.trans hL, by rw [List.length_set, List.length_append, List.length_append, hbl, hm5]; rfl, by rw [put_defers]; exact D⟩
theorem craft_self (c : Cra) (w : World) : (Op.equalIn 10000 42 (.agg (dCra.enc c).toArray) (.agg (dCra.enc c).toArray)).run Tryz.prog w = .ok true w := self_at 6 42 _ (by kernel_rfl) 9994 w
end Go.Proofs.YtbophanlmkbfeaaGreatDoor
namespace Go.Proofs.YtbophanlmkbfeaaGreatDoor
open Go.RowKit
theorem kept_two {w w1 : World} {A B : Array Value} {t u : TypeId} (h : Below ((w.alloc (.cells A t)).alloc (.cells B u)).drew.heap.size ((w.alloc (.cells A t)).alloc (.cells B u)).drew w1) :
    Below (w.alloc (.cells A t)).heap.size (w.alloc (.cells A t)) w1 ∧ ∀ j, w1.cell? ⟨w.heap.size + 1, j, none⟩ = B[j]? := by
 have h' : Below ((w.alloc (.cells A t)).alloc (.cells B u)).heap.size ((w.alloc (.cells A t)).alloc (.cells B u)) w1 := ⟨h.os, h.tape, h.output, h.size, h.block⟩
 refine ⟨((Below.refl _ _).alloc (Nat.le_refl _) _).trans (h'.mono (by simp)), fun j => ?_⟩
 rw [h'.cell (p := ⟨w.heap.size + 1, j, none⟩) (by simp)]
 exact cell_top _ _ _ _ j (by simp)
theorem str_ne {s t : ByteArray} (h : t.data.toList ≠ s.data.toList) : (t.toList == s.toList) = false := by
 rw [Lib.toList_data, Lib.toList_data]
 simpa using h
def ropenS (s : ByteArray) : Int × ByteArray × Bool :=
 if 5 ≤ s.size ∧ s.size ≤ 69 ∧ wrapL (s.data.toList.getD 1 0) (s.extract 3 (s.size - 2)).data.toList = s.data.toList then (((s.data.toList.getD 1 0).toNat : Int), s.extract 3 (s.size - 2), true) else (0, ⟨#[]⟩, false)
theorem ropenS_yes {t : List UInt8} {x d : ByteArray} {k n : Nat} (h : look t = some (n + 1)) (hx : x.data.toList = t.take (n + 5)) (hd : d.data.toList = (t.drop 3).take n) (hk : (t.getD 1 0).toNat = k) : ropenS x = ((k : Int), d, true) := by
 obtain ⟨_, _, h64, h5, _⟩ := look_parts h
 have hs : x.size = n + 5 := by
  rw [Lib.size_eq, hx, List.length_take]
  omega
 have e1 : x.data.toList.getD 1 0 = t.getD 1 0 := by
  rw [hx]
  simp [List.getD_eq_getElem?_getD]
 have e2 : (x.extract 3 (x.size - 2)).data.toList = (t.drop 3).take n := by
  rw [extract_list, hx, List.drop_take, List.take_take, hs]
  congr 1
  omega
 unfold ropenS
 rw [if_pos ⟨by omega, by omega, by rw [e1, e2, hx, wrap_look h]⟩, e1, hk]
 have e3 : x.extract 3 (x.size - 2) = d := ByteArray.ext (Array.toList_inj.1 (by rw [e2, hd]))
 rw [e3]
set_option maxHeartbeats 1000000 in
set_option maxRecDepth 100000 in
theorem ropen_any (s : ByteArray) (w : World) (hmax : s.size ≤ 5000) :
    Calls Tryz.prog 10 #[.string s] w fun e w' => e = .returned (.tuple #[.agg #[.int .i64 (ropenS s).1, .string (ropenS s).2.1], .bool (ropenS s).2.2]) ∧ Below w.heap.size w w' := by
 by_cases h5 : s.size < 5
 ·have e : ropenS s = (0, ⟨#[]⟩, false) := by unfold ropenS; rw [if_neg (by omega)]
  rw [e]
  go_enter Tryz.func10, Tryz.ntmps10
  go_wp2
  refine bodyPost_ret (v := .tuple #[.agg #[.int .i64 0, .string ⟨#[]⟩], .bool false]) (by simp [results_cell_tmp Tryz.results10, asAddr, go_sem]) rfl ⟨rfl, ?_⟩
  exact (Below.refl _ w).alloc (Nat.le_refl _) _
 have l1 : 1 < s.size := by omega
 obtain ⟨k, hk⟩ : ∃ k, (s[1]'l1) = k := ⟨_, rfl⟩
 have hsl : ∀ W : World, (Instr.slice 9 (.string s) (some (.int .i64 3)) (some (.int .i64 ((s.size : Int) - 2))) none).run Tryz.prog W = .ok (.string (s.extract 3 (s.size - 2))) W := fun W => by
  rw [run_slice_string W 9 s .i64 .i64 3 ((s.size : Int) - 2) Tryz.underlying9 (by omega) (by omega) (by omega), show ((s.size : Int) - 2).toNat = s.size - 2 by omega]
  rfl
 obtain ⟨d, hd⟩ : ∃ d : ByteArray, d = s.extract 3 (s.size - 2) := ⟨_, rfl⟩
 rw [← hd] at hsl
 have hds : d.size = s.size - 5 := by rw [hd, ByteArray.size_extract]; omega
 have HD : Hid (d = s.extract 3 (s.size - 2)) := hd
 have hw2 : IntKind.i64.wrap ((s.size : Int) - 2) = (s.size : Int) - 2 := by rw [IntKind.wrap_i64]; omega
 obtain ⟨n, hn⟩ : ∃ n, k.toNat = n := ⟨_, rfl⟩
 have hk8 : n < 256 := by rw [← hn]; exact k.toNat_lt
 have hv : IntKind.i64.wrap (n : Int) = (n : Int) := by rw [IntKind.wrap_i64]; omega
 have HO : Hid (ropenS s = if s.size ≤ 69 ∧ wrapL k d.data.toList = s.data.toList then ((n : Int), d, true) else (0, ⟨#[]⟩, false)) := by
  show _ = _
  unfold ropenS
  rw [getD_of l1, hk, ← hd, hn]
  by_cases c : s.size ≤ 69 ∧ wrapL k d.data.toList = s.data.toList
  ·rw [if_pos c, if_pos ⟨by omega, c⟩]
  ·rw [if_neg c, if_neg (fun h => c h.2)]
 clear hd
 by_cases h69 : s.size ≤ 69
 ·have hw := fun W => rwrap_yes k d W (by omega)
  rw [hn] at hw
  by_cases c : wrapL k d.data.toList = s.data.toList
  ·rw [HO.out, if_pos ⟨h69, c⟩]
   have HC : Hid (wrapL k d.data.toList = s.data.toList) := c
   clear c
   go_enter Tryz.func10, Tryz.ntmps10
   go_wp2
   go_region
   go_wp2_with (go_at_call 30; refine (hw _).mono ?_; rintro e w1 ⟨t, rfl, ht, hb1⟩; obtain rfl : t = s := ByteArray.ext (Array.toList_inj.1 (ht.trans HC.out)); obtain ⟨hb2, kc⟩ := kept_two hb1; have k0 := cell_kept0 hb2; have k1 := cell_kept1 hb2; have f0 := free_kept0 hb2; have f1 := free_kept1 hb2; have k2 : w1.cell? ⟨w.heap.size + 1, 0, none⟩ = some (.int .i64 (n : Int)) := kc 0; have k3 : w1.cell? ⟨w.heap.size + 1, 1, none⟩ = some (.string d) := kc 1; clear kc ht)
   refine bodyPost_ret (v := .tuple #[.agg #[.int .i64 (n : Int), .string d], .bool true]) (by simp [results_cell_tmp Tryz.results10, asAddr, go_sem, k0, k1]) rfl ⟨rfl, ?_⟩
   exact ((below_kept hb2).setCell (Nat.le_refl _) _).setCell (Nat.le_refl _) _
  ·rw [HO.out, if_neg (fun h => c h.2)]
   have HC : Hid (wrapL k d.data.toList ≠ s.data.toList) := c
   clear c
   go_enter Tryz.func10, Tryz.ntmps10
   go_wp2
   go_region
   go_wp2_with (go_at_call 30; refine (hw _).mono ?_; rintro e w1 ⟨t, rfl, ht, hb1⟩; have hne := str_ne (t := t) (s := s) (by rw [ht]; exact HC.out); obtain ⟨hb2, kc⟩ := kept_two hb1; have k0 := cell_kept0 hb2; have k1 := cell_kept1 hb2; have f0 := free_kept0 hb2; have f1 := free_kept1 hb2; clear kc ht)
   refine bodyPost_ret (v := .tuple #[.agg #[.int .i64 0, .string ⟨#[]⟩], .bool false]) (by simp [results_cell_tmp Tryz.results10, asAddr, go_sem, k0, k1]) rfl ⟨rfl, ?_⟩
   exact ((below_kept hb2).setCell (Nat.le_refl _) _).setCell (Nat.le_refl _) _
 ·rw [HO.out, if_neg (fun h => h69 h.1)]
  have hw := fun W => rwrap_no n d W (by omega)
  go_enter Tryz.func10, Tryz.ntmps10
  go_wp2
  go_region
  go_wp2_with (go_at_call 30; refine (hw _).mono ?_; rintro e w1 ⟨rfl, hb1⟩; obtain ⟨hb2, kc⟩ := kept_two hb1; have k0 := cell_kept0 hb2; have k1 := cell_kept1 hb2; have f0 := free_kept0 hb2; have f1 := free_kept1 hb2; clear kc)
  refine bodyPost_ret (v := .tuple #[.agg #[.int .i64 0, .string ⟨#[]⟩], .bool false]) (by simp [results_cell_tmp Tryz.results10, asAddr, go_sem, k0, k1]) rfl ⟨rfl, ?_⟩
  exact ((below_kept hb2).setCell (Nat.le_refl _) _).setCell (Nat.le_refl _) _
end Go.Proofs.YtbophanlmkbfeaaGreatDoor
namespace Go.Proofs.YtbophanlmkbfeaaGreatDoor
open Go.RowKit
def andV (Post : Value → Prop) : List Bool → Prop
 | [] => Post (.bool true)
 | [c] => Post (.bool c)
 | c :: d :: cs => vif c (andV Post (d :: cs)) (Post (.bool false))
theorem andV_of {Post : Value → Prop} : ∀ {cs : List Bool}, Post (.bool (cs.all id)) → andV Post cs
 | [], h => h
 | [c], h => by
  have e : ([c].all id) = c := by cases c <;> rfl
  rw [e] at h
  exact h
 | c :: d :: cs, h => by
  cases c
  ·exact h
  ·exact andV_of (cs := d :: cs) h
def yInn : Ct Tryz.prog := pureCt Tryz.prog 67 (then' cI (then' cI (lone' cI))) (fun x => inR x.1 x.2.1 x.2.2) cB (go_of Tryz.func67 (by kernel_rfl) (by kernel_rfl)) (fun x w _ => Calls.mono (rin_any x.1 x.2.1 x.2.2 w) (by rintro e w' ⟨rfl, rfl⟩; exact ⟨rfl, Below.refl _ _⟩))
def yRit : Ct Tryz.prog := pureCt Tryz.prog 35 (lone' cI) cRight cB (go_of Tryz.func35 (by kernel_rfl) (by kernel_rfl)) (fun x w _ => dRight_any x w)
def tlCs (x : Tel) : List Bool := [cRight x.1, inR x.2.1 0 3, inR x.2.2.1 0 15, inR x.2.2.2.1 0 255, inR x.2.2.2.2.1 0 255, inR x.2.2.2.2.2.1 0 65535, inR x.2.2.2.2.2.2.1 (-32768) 32767, inR x.2.2.2.2.2.2.2.1 (-32768) 32767, inR x.2.2.2.2.2.2.2.2.1 (-32768) 32767, inR x.2.2.2.2.2.2.2.2.2.1 (-32768) 32767, inR x.2.2.2.2.2.2.2.2.2.2.1 (-32768) 32767, inR x.2.2.2.2.2.2.2.2.2.2.2.1 (-32768) 32767, inR x.2.2.2.2.2.2.2.2.2.2.2.2.1 (-32768) 32767]
theorem tlCs_all (x : Tel) : (tlCs x).all id = tlOk (tlOf x) := by
 unfold tlCs tlOk
 simp only [List.all_cons, List.all_nil, id, Bool.and_true, ← Bool.and_assoc]
 rfl
set_option maxRecDepth 100000 in
theorem rtRight_fx : PureOk Tryz.prog 32 (lone' (cT 13)) (fun x => tlOk (tlOf x)) cB := fun x w hw => by
 refine pure_at (d := lone' (cT 13)) (k := cB) (x := x) (y := tlOk (tlOf x)) (tbl := [yInn, yRit]) (dirty := fun _ => []) (n := 6) xmixA Tryz.func32 rfl (fun Post hP => ?_) w hw
 refine Eq.mpr (β := andV Post (tlCs x)) (by kernel_rfl) (andV_of ?_)
 rw [tlCs_all]
 exact hP
def yRgt : Ct Tryz.prog := pureCt Tryz.prog 32 (lone' (cT 13)) (fun x => tlOk (tlOf x)) cB (go_of Tryz.func32 (by kernel_rfl) (by kernel_rfl)) rtRight_fx
def Two (s : ByteArray) (i : Int) : Prop := 0 ≤ i ∧ i < 100 ∧ i.toNat + 1 < s.size
def yCnt : Ct Tryz.prog := predCt Tryz.prog 31 (then' cS (lone' cI)) (fun x K => Two x.1 x.2 ∧ K (.int .i64 (sg (cnt x.1 x.2.toNat)))) (fun _ _ _ hK hs => ⟨hs.1, hK _ hs.2⟩) (go_of Tryz.func31 (by kernel_rfl) (by kernel_rfl))
 (fun x w _ K hs => Calls.mono (rtcount_any x.1 x.2 x.2.toNat w (by have := hs.1.1; omega) hs.1.2.2 (by have := hs.1.2.1; omega)) (by rintro e w' ⟨rfl, rfl⟩; exact ⟨_, rfl, rfl, hs.2, bel_drew (Below.refl _ _)⟩))
def bsOf (n : Nat) (f : Nat → UInt8) : ByteArray := ⟨⟨(List.range n).map f⟩⟩
theorem bsOf_is (s : ByteArray) : s = bsOf s.size (fun i => s.data.toList.getD i 0) := by
 obtain ⟨⟨l⟩⟩ := s
 unfold bsOf
 congr 2
 refine List.ext_getElem (by simp; rfl) (fun i h1 h2 => ?_)
 simp [h1]
theorem bt_bs {n : Nat} {f : Nat → UInt8} {i : Nat} (h : i < n) : bt (bsOf n f) i = (f i).toNat := by
 unfold bt bsOf
 simp [h]
def tckE (f : Nat → UInt8) : Nat → Int
 | 0 => 0
 | k + 1 => IntKind.i64.wrap (IntKind.i64.wrap (tckE f k * 256) + bI (f k))
theorem tckE_is {n : Nat} {f : Nat → UInt8} (hn : 6 ≤ n) : ∀ k, k ≤ 6 → tckE f k = (tickK (bsOf n f) k : Nat)
 | 0, _ => rfl
 | k + 1, hk => by
  have ih := tckE_is (f := f) hn k (by omega)
  have hl := tickK_le (bsOf n f) (k := k) (by omega)
  have hb : bI (f k) = (bt (bsOf n f) k : Nat) := by rw [bI_is, bt_bs (by omega)]
  have hb2 := bt_lt (bsOf n f) k
  have e : tickK (bsOf n f) (k + 1) = tickK (bsOf n f) k * 256 + bt (bsOf n f) k := rfl
  show IntKind.i64.wrap (IntKind.i64.wrap (tckE f k * 256) + bI (f k)) = _
  rw [ih, hb, e, IntKind.wrap_i64, IntKind.wrap_i64]
  omega
def tlF (f : Nat → UInt8) : Tel := (tckE f 6, bI (f 6), bI (f 7), bI (f 8), bI (f 9), IntKind.i64.wrap (IntKind.i64.wrap (bI (f 10) * 256) + bI (f 11)), sg (cnt (bsOf 26 f) (12 : Int).toNat), sg (cnt (bsOf 26 f) (14 : Int).toNat), sg (cnt (bsOf 26 f) (16 : Int).toNat), sg (cnt (bsOf 26 f) (18 : Int).toNat), sg (cnt (bsOf 26 f) (20 : Int).toNat), sg (cnt (bsOf 26 f) (22 : Int).toNat), sg (cnt (bsOf 26 f) (24 : Int).toNat), ())
theorem tlF_is (f : Nat → UInt8) : tlOf (tlF f) = tlE (bsOf 26 f) := by
 have h : ∀ i, i < 26 → bI (f i) = (bt (bsOf 26 f) i : Nat) := fun i hi => by rw [bI_is, bt_bs hi]
 have hr : IntKind.i64.wrap (IntKind.i64.wrap (bI (f 10) * 256) + bI (f 11)) = (cnt (bsOf 26 f) 10 : Nat) := by
  have b0 := bt_lt (bsOf 26 f) 10
  have b1 := bt_lt (bsOf 26 f) 11
  have e : cnt (bsOf 26 f) 10 = bt (bsOf 26 f) 10 * 256 + bt (bsOf 26 f) 11 := rfl
  rw [h 10 (by decide), h 11 (by decide), e, IntKind.wrap_i64, IntKind.wrap_i64]
  omega
 unfold tlOf tlF tlE
 dsimp only
 rw [tckE_is (n := 26) (by decide) 6 (by decide), h 6 (by decide), h 7 (by decide), h 8 (by decide), h 9 (by decide), hr]
 rfl
abbrev kTel : Dc (Tel × Bool) := two' (cT 13) cB
def zeroT : Tel := (0, 0, 0, 0, 0, 0, 0, 0, 0, 0, 0, 0, 0, ())
set_option maxRecDepth 100000 in
theorem rtread_yes (s : ByteArray) (w : World) (hw : GW w) (hs : s.size = 26) (h : tlOk (tlE s) = true) {T : Tel} (hT : tlOf T = tlE s) : Calls Tryz.prog 11 ((lone' cFra).enc (32, s)).toArray w fun e w' => e = .returned (kTel.enc (T, true)) ∧ Below w.heap.size w w' := by
 have e := bsOf_is s
 rw [hs] at e
 generalize (fun i => s.data.toList.getD i 0) = f at e
 subst e
 obtain rfl : T = tlF f := by
  have := hT.trans (tlF_is f).symm
  exact congrArg (fun z : Tl => ((z.t, z.m, z.fa, z.ak, z.er, z.rj, z.q0, z.q1, z.q2, z.q3, z.d0, z.d1, z.d2, ()) : Tel)) this
 rw [← tlF_is] at h
 refine pure_at (d := lone' cFra) (k := kTel) (x := (32, bsOf 26 f)) (y := (tlF f, true)) (tbl := [yCnt, yRgt]) (dirty := fun _ => []) (n := 8) xmixA Tryz.func11 rfl (fun Post hP => ?_) w hw
 refine Eq.mpr (β := Two (bsOf 26 f) 12 ∧ Two (bsOf 26 f) 14 ∧ Two (bsOf 26 f) 16 ∧ Two (bsOf 26 f) 18 ∧ Two (bsOf 26 f) 20 ∧ Two (bsOf 26 f) 22 ∧ Two (bsOf 26 f) 24 ∧ vif (!tlOk (tlOf (tlF f))) (PJ kTel Post (zeroT, false)) (PJ kTel Post (tlF f, true))) (by kernel_rfl) ?_
 have g : ∀ i : Int, 0 ≤ i → i ≤ 24 → Two (bsOf 26 f) i := fun i h0 h1 => ⟨h0, by omega, by rw [hs]; omega⟩
 rw [h]
 exact ⟨g _ (by decide) (by decide), g _ (by decide) (by decide), g _ (by decide) (by decide), g _ (by decide) (by decide), g _ (by decide) (by decide), g _ (by decide) (by decide), g _ (by decide) (by decide), hP⟩
end Go.Proofs.YtbophanlmkbfeaaGreatDoor
namespace Go.Proofs.YtbophanlmkbfeaaGreatDoor
open Go.RowKit
def tlT (T : Tl) : Tel := (T.t, T.m, T.fa, T.ak, T.er, T.rj, T.q0, T.q1, T.q2, T.q3, T.d0, T.d1, T.d2, ())
theorem opens_told (T : Tl) : ropenS (bytesOf T) = (32, strOf (tlL T), true) := by
 have hn : (strOf (tlL T)).data.toList.length = 26 := tlStr_size T
 have hl := look_wrap 32 (strOf (tlL T)).data.toList [] (by omega)
 rw [List.append_nil, hn] at hl
 have hw := wrapL_length 32 (strOf (tlL T)).data.toList
 have hb : (bytesOf T).data.toList = wrapL 32 (strOf (tlL T)).data.toList := rfl
 refine ropenS_yes (k := 32) hl ?_ ?_ rfl
 ·rw [hb, List.take_of_length_le (by omega)]
 ·rw [wrapL_parts]
  show (strOf (tlL T)).data.toList = List.take 26 ((strOf (tlL T)).data.toList ++ _)
  rw [List.take_append_of_le_length (by omega), List.take_of_length_le (by omega)]
def readS (s : ByteArray) : Tl := tlE (ropenS s).2.1
theorem readS_of {T : Tl} (h : tlOk T = true) : readS (bytesOf T) = T := by
 unfold readS
 rw [opens_told]
 exact tl_back h
def ToldOk (s : ByteArray) : Prop := ∃ T, tlOk T = true ∧ s = bytesOf T
def StepOk (x : Cra × Int × ByteArray) : Prop := CInv x.1 ∧ x.1.2.2.1.size + x.2.2.size ≤ 5000
def stepQ (F : Fs) (x : Cra × Int × ByteArray) (K : Value → Prop) : Prop :=
 StepOk x ∧ vif (stays x.1 x.2.1) (K ((two' cCra cS).enc (x.1, noBytes))) (K ((two' cCra cS).enc ((stepF F x.1 x.2.1 x.2.2).1, bytesOf (tlOf (telF F (stepF F x.1 x.2.1 x.2.2).1)))))
theorem stepQ_mono (F : Fs) (x : Cra × Int × ByteArray) (K K' : Value → Prop) (hK : ∀ v, K v → K' v) (h : stepQ F x K) : stepQ F x K' := by
 refine ⟨h.1, ?_⟩
 have h2 := h.2
 cases hs : stays x.1 x.2.1
 ·rw [hs] at h2
  exact hK _ h2
 ·rw [hs] at h2
  exact hK _ h2
theorem stepQ_at {F : Fs} (hF : FsIs F) (x : Cra × Int × ByteArray) (w : World) (hw : GW w) (K : Value → Prop) (h : stepQ F x K) :
    Calls Tryz.prog 9 ((then' cCra (then' cI (lone' cS))).enc x).toArray w fun e w' => ∃ v, e = .returned v ∧ isP v = false ∧ K v ∧ Below w.heap.size w w' := by
 obtain ⟨c, t, b⟩ := x
 obtain ⟨⟨hi, hz⟩, h2⟩ := h
 dsimp only at hi hz h2
 refine Calls.mono (stepF_at hF.ok c t b hz w hw) ?_
 rintro e w' ⟨rfl, hb⟩
 refine ⟨_, rfl, rfl, ?_, hb⟩
 cases hs : stays c t
 ·rw [hs] at h2
  have h2 : K ((two' cCra cS).enc ((stepF F c t b).1, bytesOf (tlOf (telF F (stepF F c t b).1)))) := h2
  rw [← (took hF hi b hs).2] at h2
  exact h2
 ·rw [hs] at h2
  rw [stays_yes hF hs b]
  exact h2
def stepCt (F : Fs) (hF : FsIs F) : Ct Tryz.prog := predCt Tryz.prog 9 (then' cCra (then' cI (lone' cS))) (stepQ F) (stepQ_mono F) (go_of Tryz.func9 (by kernel_rfl) (by kernel_rfl)) (stepQ_at hF)
end Go.Proofs.YtbophanlmkbfeaaGreatDoor
namespace Go.Proofs.YtbophanlmkbfeaaGreatDoor
open Go.RowKit
def gapW (x : Int) : Int := if 1000000 < (if -1000000 > x then -1000000 else x) then 1000000 else (if -1000000 > x then -1000000 else x)
section
variable (F : Fs) (hF : FsIs F) (f : Nat) (Held : Cra → Cra → Tel → ByteArray → Prop) (ao : Option Addr) (nn cap : Nat) (L : Nat → Int × ByteArray) (sl : Value)
end
def remS (L : Nat → Int × ByteArray) : Nat → Nat → Nat
 | _, 0 => 0
 | i, k + 1 => (L i).2.size + remS L (i + 1) k
end Go.Proofs.YtbophanlmkbfeaaGreatDoor
namespace Go.Proofs.YtbophanlmkbfeaaGreatDoor
open Go.RowKit
theorem take_none (F : Fs) (t : Int) : takeW F zeroCra t noBytes = (leftC zeroCra (restOf []), zeroHea) := rfl
theorem cnt_small (b : Bool) : cntW 0 b ≤ 1 := by
 unfold cntW
 cases b
 ·decide
 ·decide
theorem zero_next {s : See} (h : s.2.2.2.2.2.2.2 = 0) : (nextT ((0, 0, 0, 0, 0, 0, ()), s)).1 = 0 := by
 show (nextW ⟨0, 0, 0, 0, 0, 0⟩ (snOf s)).mode = 0
 have h1 : ¬ (snOf s).order = 1 := by
  show ¬ s.2.2.2.2.2.2.2 = 1
  omega
 unfold nextW nextV
 rw [if_neg h1, if_neg (by decide), if_pos rfl]
 unfold detW
 dsimp only
 rw [if_neg (by have := cnt_small ((snOf s).gyro && (snOf s).slow); omega)]
theorem first_step {F : Fs} (hF : FsIs F) : (stepF F zeroCra 5 noBytes).1.1 = true ∧ (telF F (stepF F zeroCra 5 noBytes).1).1 = 5 ∧ (telF F (stepF F zeroCra 5 noBytes).1).2.1 = 0 ∧ CInv (stepF F zeroCra 5 noBytes).1 := by
 have hs : stays zeroCra 5 = false := rfl
 obtain ⟨k, _⟩ := took hF CInv.zero noBytes hs
 refine ⟨k.on, k.tick, ?_, k.inv⟩
 show (cPlan (stepF F zeroCra 5 noBytes).1).1 = 0
 obtain ⟨p, s, hp, _, ho, _, hn⟩ := k.plan
 rw [take_none] at ho
 have hp : p = (0, 0, 0, 0, 0, 0, ()) := by
  rcases hp with e | e <;> rw [e] <;> rfl
 subst hp
 have hz := zero_next ho
 rcases hn with e | ⟨e, _⟩
 ·rw [e]
  exact hz
 ·exact absurd (hz.symm.trans e) (by decide)
def retOf (P : Program) (fn : Func) (Post : Value → Prop) (Q : VQ) : VQ := fun e vt m => match e with
 | .ret => retQ P fn (fun v _ => Post v) .ret vt m
 | e => Q e vt m
section
variable (ao : Option Addr) (nn cap : Nat) (L : Nat → Int × ByteArray) (sl : Value)
end
section
variable (ao : Option Addr) (nn cap : Nat) (L : Nat → Int × ByteArray) (sl : Value)
end
theorem ptrOk_le {sl : Value} (h : ptrOk 1 sl = true) {k : Nat} (hk : 1 ≤ k) : ptrOk k sl = true := by
 match sl, h with
 | .pointer (some a), hp => exact decide_eq_true (by have := of_decide_eq_true hp; omega)
 | .slice (some a) _ _, hp => exact decide_eq_true (by have := of_decide_eq_true hp; omega)
 | .slice none _ _, _ => rfl
 | .pointer none, _ => rfl
 | .bool _, _ => rfl
 | .int _ _, _ => rfl
 | .float _ _, _ => rfl
 | .complex _ _ _, _ => rfl
 | .string _, _ => rfl
 | .map _, _ => rfl
 | .chan _, _ => rfl
 | .func _ _ _, _ => rfl
 | .nilFunc, _ => rfl
 | .nilIface, _ => rfl
 | .iface _ _, _ => rfl
 | .agg _, _ => rfl
 | .tuple _, _ => rfl
theorem loop_ret {P : Program} {fn : Func} {Post : Value → Prop} {k : Nat} {G : VQ → List Value → Xm → Prop} {Q : VQ} {vt : List Value} {m : Xm} : loopN (k + 1) G (retOf P fn Post Q) vt m = G (retOf P fn Post (fun e vt' m' => match e with
    | .normal => loopN k G (retOf P fn Post Q) vt' m'
    | e => Q e vt' m')) vt m := by
 rw [loopN]
 congr 1
 funext e vt' m'
 cases e <;> rfl
theorem Recs.same {w w' : World} {B : Nat} {ao : Option Addr} {n cap : Nat} {L : Nat → Int × ByteArray} {sl : Value} (h : Recs w B ao n cap L sl) (hb : Below w.heap.size w w') : Recs w' B ao n cap L sl := by
 have e := hb.block B h.lies
 exact ⟨h.rv, h.ok, Nat.lt_of_lt_of_le h.lies hb.size, h.idx, fun i hi => let ⟨o, h1, h2, h3⟩ := h.at_ i hi; ⟨o, h1, by rw [cell_old e]; exact h2, by rw [cell_old e]; exact h3⟩⟩
end Go.Proofs.YtbophanlmkbfeaaGreatDoor
