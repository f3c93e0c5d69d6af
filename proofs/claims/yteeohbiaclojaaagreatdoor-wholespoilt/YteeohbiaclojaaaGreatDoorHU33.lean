/-
A part.
A part.
A part.
A part.
A part.
-/
import Derived.Laws.StructEq
import Derived.ChangeKeysEq
import Derived.Laws.ResultCell
import Derived.RegionTactic
import Derived.BigRegion
import Derived.Test.YteeohbiaclojaaaGreatDoorHU32
import Derived.Test.YteeohbiaclojaaaGreatDoorHU02
import Derived.Test.YteeohbiaclojaaaGreatDoorHU18
namespace Go.Proofs.YteeohbiaclojaaaGreatDoor
open Go.RowKit
theorem filE_keeps (F : Fs) (s : See) (g : Tup 43) (b pass : Bool) : (filE F s g b pass).2.1 = s.1 ∧ (filE F s g b pass).2.2.2.2.2.2.2.2 = s.2.2.2.2.2.2.2 := by
 unfold filE
 split
 ·exact ⟨rfl, rfl⟩
 ·exact ⟨rfl, rfl⟩
theorem filR_keeps (F : Fs) (s : See) (x : Hea) (y : Sky) (r : Tup 43 × Bool) : (filR F s x y r).2.1 = s.1 ∧ (filR F s x y r).2.2.2.2.2.2.2.2 = s.2.2.2.2.2.2.2 := by
 unfold filR
 split
 ·split
  ·exact filE_keeps ..
  ·exact filE_keeps ..
 ·exact filE_keeps ..
theorem filW_keeps (F : Fs) (g : Tup 43) (s : See) (ms : Int) (x : Hea) (y : Sky) : (filW F g s ms x y).2.1 = s.1 ∧ (filW F g s ms x y).2.2.2.2.2.2.2.2 = s.2.2.2.2.2.2.2 := by
 unfold filW
 split
 ·exact filR_keeps ..
 ·exact filR_keeps ..
theorem decW_keeps (F : Fs) (c : Cra) (t : Int) (x : Hea) (y : Sky) : (decW F c t x y).1 = !goesW c t ∧ (decW F c t x y).2.2.2.2.2.2.2 = x.2.2.2 := by
 unfold decW
 split
 ·split
  ·exact ⟨rfl, rfl⟩
  ·exact ⟨rfl, rfl⟩
 ·split
  ·exact ⟨rfl, rfl⟩
  ·exact ⟨rfl, rfl⟩
theorem goW_is (F : Fs) (c : Cra) (x : Hea) (t : Int) : ∃ g s, goW F c x t = endW F (setGue c g) s x (skyW F c t) t ∧ s.1 = !goesW c t ∧ s.2.2.2.2.2.2.2 = x.2.2.2 := by
 have hd := decW_keeps F c t x (skyW F c t)
 unfold goW
 split
 ·split
  ·have hf := filW_keeps F c.2.2.2.2.2.2.2.1 (decW F c t x (skyW F c t)) (IntKind.i64.wrap (t - c.2.1)) x (skyW F c t)
   exact ⟨_, _, rfl, hf.1.trans hd.1, hf.2.trans hd.2⟩
  ·exact ⟨cGues c, _, rfl, hd.1, hd.2⟩
 ·exact ⟨cGues c, _, rfl, hd.1, hd.2⟩
theorem entW_is (F : Fs) (p a b : Tup 6) : (entW F p a b).1 = p ∨ (entW F p a b).1 = (1, 0, 0, 0, 0, or4W p.2.2.2.2.2.1, ()) := by
 unfold entW
 split
 ·exact .inr rfl
 ·exact .inl rfl
theorem plan_is {F : Fs} (hF : FsIs F) (c : Cra) (s : See) (x : Hea) (y : Sky) :
    (planW F c s x y).1 = nextT (cPlan c, s) ∨ ((nextT (cPlan c, s)).1 = 2 ∧ (cPlan c).1 ≠ 2 ∧ (planW F c s x y).1 = (1, 0, 0, 0, 0, or4W (nextT (cPlan c, s)).2.2.2.2.2.1, ())) := by
 unfold planW
 rw [hF.next]
 split
 ·exact .inl rfl
 rename_i h2
 split
 ·exact .inl rfl
 rename_i h3
 rcases entW_is F (nextT (cPlan c, s)) y.2.2 (dirsW x) with e | e
 ·exact .inl e
 ·refine .inr ⟨?_, ?_, e⟩
  ·simpa using h2
  ·simpa using h3
theorem plan_in {F : Fs} (hF : FsIs F) {c : Cra} (h : PlI (plOf (cPlan c))) (s : See) (x : Hea) (y : Sky) : PlI (plOf (planW F c s x y).1) := by
 have hn : PlI (plOf (nextT (cPlan c, s))) := h.step (snOf s)
 rcases plan_is hF c s x y with e | ⟨_, _, e⟩
 ·rw [e]
  exact hn
 ·rw [e]
  exact hn.fail 4 (by decide)
theorem tcS_in (r : Int × Bool) : inR (tcS r).1 (-32768) 32767 = true := by
 unfold tcS
 split
 ·assumption
 ·rfl
theorem tlC_in (q : Int × Int × Int × Int) (m : V3) : inR (tlC q m).1.1 (-32768) 32767 = true ∧ inR (tlC q m).1.2.1 (-32768) 32767 = true ∧ inR (tlC q m).1.2.2.1 (-32768) 32767 = true ∧ inR (tlC q m).1.2.2.2 (-32768) 32767 = true ∧ inR (tlC q m).2.1 (-32768) 32767 = true ∧ inR (tlC q m).2.2.1 (-32768) 32767 = true ∧ inR (tlC q m).2.2.2 (-32768) 32767 = true := by
 unfold tlC
 dsimp only
 split
 ·exact ⟨rfl, rfl, rfl, rfl, rfl, rfl, rfl⟩
 ·exact ⟨tcS_in _, tcS_in _, tcS_in _, tcS_in _, tcS_in _, tcS_in _, tcS_in _⟩
structure CInv (c : Cra) : Prop where
 t : cRight c.2.1 = true
 p : PlI (plOf (cPlan c))
 off : c.1 = false → (cPlan c).1 = 0
 ak : AkI (cAcks c)
theorem CInv.zero : CInv zeroCra := ⟨rfl, ⟨i64_0, i64_0, i64_0, i64_0, Int.le_refl 0, show (0 : Int) ≤ 3 by decide, Int.le_refl 0, show (0 : Int) ≤ 15 by decide⟩, fun _ => rfl, ⟨Int.le_refl 0, show (0 : Int) ≤ 255 by decide, Int.le_refl 0, show (0 : Int) ≤ 255 by decide, Int.le_refl 0, show (0 : Int) ≤ 65535 by decide⟩⟩
def telF (F : Fs) (c : Cra) : Tel := telT c (countsT (q4T (cGues c), coilW F c))
theorem tel_ok (F : Fs) {c : Cra} (h : CInv c) : tlOk (tlOf (telF F c)) = true := by
 obtain ⟨h1, h2, h3, h4, h5, h6, h7⟩ := tlC_in ((q4T (cGues c)).1, (q4T (cGues c)).2.1, (q4T (cGues c)).2.2.1, (q4T (cGues c)).2.2.2.1) ((coilW F c).1, (coilW F c).2.1, (coilW F c).2.2.1)
 have a := h.t
 have b : inR (cPlan c).1 0 3 = true := inR_iff.2 ⟨h.p.m0, h.p.m3⟩
 have d : inR (cPlan c).2.2.2.2.2.1 0 15 = true := inR_iff.2 ⟨h.p.f0, h.p.f9⟩
 have e : inR (cAcks c).1 0 255 = true := inR_iff.2 ⟨h.ak.a0, h.ak.a1⟩
 have f : inR (cAcks c).2.1 0 255 = true := inR_iff.2 ⟨h.ak.e0, h.ak.e1⟩
 have g : inR (cAcks c).2.2.1 0 65535 = true := inR_iff.2 ⟨h.ak.r0, h.ak.r1⟩
 show (cRight c.2.1 && inR (cPlan c).1 0 3 && inR (cPlan c).2.2.2.2.2.1 0 15 && inR (cAcks c).1 0 255 && inR (cAcks c).2.1 0 255 && inR (cAcks c).2.2.1 0 65535 && _ && _ && _ && _ && _ && _ && _) = true
 rw [a, b, d, e, f, g]
 exact (congrArg (fun z => z && _ && _ && _ && _ && _ && _) h1).trans ((congrArg (fun z => z && _ && _ && _ && _ && _) h2).trans ((congrArg (fun z => z && _ && _ && _ && _) h3).trans ((congrArg (fun z => z && _ && _ && _) h4).trans ((congrArg (fun z => z && _ && _) h5).trans ((congrArg (fun z => z && _) h6).trans h7)))))
def tailOf (T : Tl) : List UInt8 := (wrapL 32 (strOf (tlL T)).data.toList).drop 1
def bytesOf (T : Tl) : ByteArray := ⟨⟨165 :: tailOf T⟩⟩
theorem tlStr_size (T : Tl) : (strOf (tlL T)).size = 26 := rfl
theorem told_is {F : Fs} (hF : FsIs F) {c : Cra} (h : CInv c) : toldW F c = bytesOf (tlOf (telF F c)) := by
 have ok := tel_ok F h
 unfold toldW
 rw [hF.write, hF.counts, hF.wrap]
 show (if (!(writeT (telF F c)).2) = true then noBytes else (wrapT (writeT (telF F c)).1).1) = _
 have e2 : (writeT (telF F c)).2 = true := ok
 have e1 : (writeT (telF F c)).1 = (32, strOf (tlL (tlOf (telF F c)))) := by
  show tlW (tlOf (telF F c)) = _
  unfold tlW
  rw [if_pos ok]
 rw [e2, e1]
 show (wrapT (32, strOf (tlL (tlOf (telF F c))))).1 = _
 unfold wrapT
 rw [if_pos ⟨by dsimp only; decide, by dsimp only; decide, by dsimp only; rw [tlStr_size]; decide⟩]
 rfl
structure Took (F : Fs) (c : Cra) (t : Int) (b : ByteArray) (d : Cra) : Prop where
 right : cRight t = true
 late : c.1 = true → c.2.1 < t
 inv : CInv d
 tick : d.2.1 = t
 on : d.1 = true
 left : d.2.2.1 = restOf (c.2.2.1 ++ b).data.toList
 plan : ∃ p s, (p = cPlan c ∨ p = clrP (cPlan c)) ∧ (s.1 = !goesW c t) ∧ s.2.2.2.2.2.2.2 = (takeW F c t b).2.2.2.2 ∧ OrdI (takeW F c t b).2 ∧ (cPlan d = nextT (p, s) ∨ ((nextT (p, s)).1 = 2 ∧ p.1 ≠ 2 ∧ cPlan d = (1, 0, 0, 0, 0, or4W (nextT (p, s)).2.2.2.2.2.1, ())))
theorem goesW_same {c d : Cra} (h1 : d.1 = c.1) (h2 : d.2.1 = c.2.1) (t : Int) : goesW d t = goesW c t := by
 unfold goesW
 rw [h1, h2]
def stays (c : Cra) (t : Int) : Bool := !cRight t || (c.1 && decide (t ≤ c.2.1))
theorem stays_yes {F : Fs} (hF : FsIs F) {c : Cra} {t : Int} (h : stays c t = true) (b : ByteArray) : stepF F c t b = (c, noBytes) := by
 unfold stays at h
 unfold stepF stepW
 rw [hF.right]
 cases hr : cRight t
 ·rfl
 ·rw [hr] at h
  simp only [Bool.not_true, Bool.false_or, Bool.and_eq_true] at h
  simp only [Bool.not_true, Bool.false_eq_true, if_false]
  rw [if_pos h.1, if_pos h.2]
theorem stays_no {F : Fs} (hF : FsIs F) {c : Cra} {t : Int} (h : stays c t = false) (b : ByteArray) : stepF F c t b = stepR F (fun _ => takeW F c t b) c t b ∧ cRight t = true ∧ (c.1 = true → c.2.1 < t) := by
 unfold stays at h
 unfold stepF stepW
 rw [hF.right]
 cases hr : cRight t
 ·rw [hr] at h; cases h
 ·rw [hr] at h
  simp only [Bool.not_true, Bool.false_or] at h
  simp only [Bool.not_true, Bool.false_eq_true, if_false]
  cases hc : c.1
  ·exact ⟨rfl, by trivial, fun h => by cases h⟩
  ·rw [hc] at h
   simp only [Bool.true_and] at h
   simp only [if_true]
   rw [h]
   exact ⟨rfl, by trivial, fun _ => by have := of_decide_eq_false h; omega⟩
theorem took_of {F : Fs} (hF : FsIs F) {c : Cra} (hI : CInv c) (t : Int) (b : ByteArray) (hr : cRight t = true) (hl : c.1 = true → c.2.1 < t) :
    Took F c t b (stepR F (fun _ => takeW F c t b) c t b).1 ∧ (stepR F (fun _ => takeW F c t b) c t b).2 = bytesOf (tlOf (telF F (stepR F (fun _ => takeW F c t b) c t b).1)) := by
 obtain ⟨hm, ho⟩ := take_mid hF c hI.ak t b
 unfold stepR
 dsimp only
 have hpO : ∀ x, x = (takeW F c t b).2 → x.2.2.2 = (takeW F c t b).2.2.2.2 ∧ OrdI (takeW F c t b).2 := fun x e => by rw [e]; exact ⟨rfl, ho⟩
 generalize hT : takeW F c t b = T at hm ho ⊢
 obtain ⟨c1, x⟩ := T
 dsimp only at hm ho ⊢
 generalize driftW F c1.2.2.2.2.2.2.1 x = dr
 obtain ⟨g, s, e, hg, hs⟩ := goW_is F (setDri c1 dr) x t
 rw [e]
 generalize skyW F (setDri c1 dr) t = y
 have hp : PlI (plOf (cPlan (setGue (setDri c1 dr) g))) := by
  show PlI (plOf (cPlan c1))
  rcases hm.plan with e | e <;> rw [e]
  ·exact hI.p
  ·exact ⟨hI.p.c, hI.p.g, hI.p.i, hI.p.l, hI.p.m0, hI.p.m3, Int.le_refl 0, show (0 : Int) ≤ 15 by decide⟩
 have hq := plan_in hF hp s x y
 have hpl := plan_is hF (setGue (setDri c1 dr) g) s x y
 unfold endW
 dsimp only
 generalize planW F (setGue (setDri c1 dr) g) s x y = P at hq hpl ⊢
 have hi : CInv (setEnd (setGue (setDri c1 dr) g) t P.1 P.2) := ⟨hr, hq, fun h => Bool.noConfusion h, hm.ak⟩
 have hpx := hpO x (by rw [hT])
 refine ⟨⟨hr, hl, hi, rfl, rfl, hm.left, cPlan c1, s, hm.plan, ?_, hs.trans hpx.1, hpx.2, hpl⟩, told_is hF hi⟩
 rw [hg]
 exact congrArg _ (goesW_same hm.on hm.tick t)
theorem took {F : Fs} (hF : FsIs F) {c : Cra} (hI : CInv c) {t : Int} (b : ByteArray) (h : stays c t = false) :
    Took F c t b (stepF F c t b).1 ∧ (stepF F c t b).2 = bytesOf (tlOf (telF F (stepF F c t b).1)) := by
 obtain ⟨e, hr, hl⟩ := stays_no hF h b
 rw [e]
 exact took_of hF hI t b hr hl
end Go.Proofs.YteeohbiaclojaaaGreatDoor
namespace Go.Proofs.YteeohbiaclojaaaGreatDoor
open Go.RowKit
def selfOk (P : Program) : Nat → TypeId → Value → Bool
 | 0, _, _ => false
 | d + 1, t, v => match P.underlying t, v with
  | some .bool, .bool _ => true
  | some (.int _), .int _ _ => true
  | some .string, .string _ => true
  | some (.struct fs), .agg xs => !P.stoodInHeld t && fs.toList.all fun f => match qrun P (part f.type xs f.offset) with
   | some u => selfOk P d f.type u
   | none => false
  | some (.array n e), .agg xs => (P.info? e).isSome && (List.range n).all fun i => match qrun P (part e xs (i * P.cellsOf e)) with
   | some u => selfOk P d e u
   | none => false
  | _, _ => false
section
variable {P : Program}
def SelfAt (P : Program) (d : Nat) : Prop := ∀ t v, selfOk P d t v = true → ∀ (k : Nat) (w : World), (Op.equalIn (k + d) t v v).run P w = .ok true w
theorem fields_self {d k : Nat} (ih : SelfAt P d) (xs : Array Value) (w : World) : ∀ fs : List Field, (fs.all fun f => match qrun P (part f.type xs f.offset) with
      | some u => selfOk P d f.type u
      | none => false) = true → (Op.eqFields (k + d) xs xs fs).run P w = .ok true w
 | [], _ => by simp [Op.eqFields]
 | f :: fs, h => by
  rw [List.all_cons, Bool.and_eq_true] at h
  have ih2 := fields_self (k := k) ih xs w fs h.2
  have h1 := h.1
  unfold Op.eqFields
  split
  ·split at h1
   ·rename_i u hu
    have p := qrun_run _ hu w
    have e := ih _ _ h1 k w
    simp only [Sem.run_bind, p, Result.andThen_ok, e, Bool.not_true, Bool.false_eq_true, if_false, ih2]
   ·cases h1
  ·exact ih2
theorem items_self {d k : Nat} (ih : SelfAt P d) (e : TypeId) (xs : Array Value) (w : World) : ∀ is : List Nat, (is.all fun i => match qrun P (part e xs (i * P.cellsOf e)) with
      | some u => selfOk P d e u
      | none => false) = true → (Op.eqItems (k + d) e (P.cellsOf e) xs xs is).run P w = .ok true w
 | [], _ => by simp [Op.eqItems]
 | i :: is, h => by
  rw [List.all_cons, Bool.and_eq_true] at h
  have ih2 := items_self (k := k) ih e xs w is h.2
  have h1 := h.1
  unfold Op.eqItems
  split at h1
  ·rename_i u hu
   have p := qrun_run _ hu w
   have e := ih _ _ h1 k w
   simp only [Sem.run_bind, p, Result.andThen_ok, e, Bool.not_true, Bool.false_eq_true, if_false, ih2]
  ·cases h1
theorem self_at : ∀ d, SelfAt P d
 | 0 => fun t v h => by cases h
 | d + 1 => fun t v h k w => by
  have ih := self_at d
  unfold selfOk at h
  split at h
  ·rename_i hu
   rw [← Nat.add_assoc, run_equalIn_bool' w _ _ _ _ hu]
   simp
  ·rename_i hu
   rw [← Nat.add_assoc, run_equalIn_int w _ _ _ _ _ _ hu]
   simp
  ·rename_i hu
   rw [← Nat.add_assoc, run_equalIn_string w _ _ _ _ hu]
   simp
  ·rename_i fs xs hu
   rw [Bool.and_eq_true] at h
   have hf : P.fieldsOf t = fs := by unfold Program.fieldsOf; rw [hu]
   rw [← Nat.add_assoc, run_equalIn_struct w _ _ _ _ (by rw [hf]; exact hu) (by simpa using h.1), hf]
   exact fields_self ih xs w _ h.2
  ·rename_i n e xs hu
   rw [Bool.and_eq_true] at h
   obtain ⟨i, hi⟩ := Option.isSome_iff_exists.1 h.1
   rw [← Nat.add_assoc, run_equalIn_array w _ _ _ hu hi]
   exact items_self ih e xs w _ h.2
  ·cases h
end
end Go.Proofs.YteeohbiaclojaaaGreatDoor
namespace Go.Proofs.YteeohbiaclojaaaGreatDoor
open Go.RowKit
structure Recs (w0 : World) (B : Nat) (ao : Option Addr) (n cap : Nat) (L : Nat → Int × ByteArray) (sl : Value) : Prop where
 rv : ∀ bl : Bl, bl[0]? = some (some B) → RV bl sl (.slice ao n cap)
 ok : ptrOk 1 sl = true
 lies : B < w0.heap.size
 idx : ∀ {i}, i < n → sl ≠ .nilIface
 at_ : ∀ i, i < n → ∃ o, ao = some ⟨B, o, none⟩ ∧ w0.cell? ⟨B, o + i * 2, none⟩ = some (.int .i64 (L i).1) ∧ w0.cell? ⟨B, o + i * 2 + 1, none⟩ = some (.string (L i).2)
theorem cell_old {w0 w : World} {B : Nat} (h : w.heap[B]? = w0.heap[B]?) (o : Nat) : w.cell? ⟨B, o, none⟩ = w0.cell? ⟨B, o, none⟩ := by
 unfold World.cell?
 rw [h]
theorem load_two {P : Program} {t : TypeId} {B o : Nat} {w : World} {x y : Value} (ha : qrun P (isAgg t) = some true) (hz : qrun P (sizeOf t) = some 2) (h0 : w.cell? ⟨B, o, none⟩ = some x) (h1 : w.cell? ⟨B, o + 1, none⟩ = some y) : (loadVar t ⟨B, o, none⟩).run P w = .ok (.agg #[x, y]) w := by
 have r1 := qrun_run _ ha w
 have r2 := qrun_run _ hz w
 unfold loadVar
 simp [Sem.run_bind, r1, r2, loadCells, loadCellsFrom, load, Sem.run, add_is, h0, h1]
def eSl (sP d0 d1 d2 d3 N : Nat) (ao : Option Addr) (n cap : Nat) (sl : Value) (K : List Value → Xm → Prop) (vt : List Value) (m : Xm) : Prop :=
 vt.getD sP undef = .pointer (some ⟨1, 0, none⟩) ∧ (∃ x, m[1]? = some [x, .slice ao n cap]) ∧ vt.length = N ∧ K ((((vt.set d0 .nilIface).set d1 sl).set d2 (.int .i64 (n : Nat))).set d3 (.int .i64 0)) m
theorem eSl_sound {bs : List Nat} {w0 : World} {ds : List Deferred} {bl0 : Bl} {K : List Value → Xm → Prop} {Q : Exit → Act → World → Prop} {bl : Bl} {vt : List Value} {m : Xm} {a : Act} {w : World} {B : Nat} {ao : Option Addr} {n cap : Nat} {L : Nat → Int × ByteArray} {sl : Value} {ops : Array Oper} {id : Nat} {o0 o1 o2 o3 : Oper} {tP tS tE : TypeId} {sP d0 d1 d2 d3 N : Nat} (n0 : d0 < N) (n1 : d1 < N) (n2 : d2 < N) (n3 : d3 < N) (hb0 : bl0[0]? = some (some B)) (hr : Recs w0 B ao n cap L sl) (hfl : fieldV Tryz.prog tP 1 = some 1) (hag : qrun Tryz.prog (isAgg tS) = some false) (hu : Tryz.prog.underlying tS = some (.slice tE)) (ho : ops = #[o0, o1, o2, o3])
    (h0 : o0.dst = some d0 ∧ o0.op = .fieldAddr tP (.tmp sP) 1 ∧ o0.guard = none) (h1 : o1.dst = some d1 ∧ o1.op = .load tS (.tmp d0) ∧ o1.guard = none) (h2 : o2.dst = some d2 ∧ o2.op = .call { callee := .builtin .len, args := #[.tmp d1], argTypes := #[tS] } ∧ o2.guard = none) (h3 : o3.dst = some d3 ∧ o3.op = .move (.const (.int .i64 0)) ∧ o3.guard = none)
    (h : eSl sP d0 d1 d2 d3 N ao n cap sl K vt m) (r : Rl bs w0 ds bl0 bl vt m a w) (hK : ∀ bl vt m a w, K vt m → Rl bs w0 ds bl0 bl vt m a w → Q .normal a w) : (Code.region id ops false).wp Tryz.prog Q a w := by
 subst ho
 have hlen := r.F.len
 obtain ⟨hp, ⟨x0, hm⟩, hlt, hk⟩ := h
 rw [hlt] at hlen
 have hp' := r.F.rv sP
 rw [hp] at hp'
 obtain ⟨C, hC, EsP⟩ := hp'
 have EsP : a.eval (.tmp sP) = .pointer (some ⟨C, 0, none⟩) := EsP
 obtain ⟨row, e0, A0⟩ := r.R.arr 1 C hC
 have e0 : m[1]? = some row := e0
 rw [hm] at e0
 cases e0
 have hld : loadV Tryz.prog tS [x0, .slice ao n cap] 1 = some (.slice ao n cap) := by unfold loadV; rw [hag]; rfl
 have rld := loadV_run hld A0
 have rfl1 := fieldV_run hfl C 0 w
 have hrv := hr.rv bl (r.le 0 B hb0)
 have r0 := run_under hu w
 have F := r.F
 have D := r.defers
 refine wp_region ?_
 refine ops_valS (v := .nilIface) (v' := (.pointer (some ⟨C, 1, none⟩))) (w' := w) rfl h0.1 (unguarded h0.2.2) (by simp [execOp, h0.2.1, EsP, rfl1]) F D hlen n0 (rfl) fun a F D hlen Ed0 X => ?_
 refine ops_valS (v := sl) (v' := (.slice ao n cap)) (w' := w) rfl h1.1 (unguarded h1.2.2) (by simp [execOp, h1.2.1, Ed0, Instr.loadAt, Instr.sureAddr, rld]) F D hlen n1 (hrv) fun a F D hlen Ed1 X => ?_
 refine ops_valS (v := .int .i64 (n : Nat)) (v' := (.int .i64 (n : Nat))) (w' := w) rfl h2.1 (unguarded h2.2.2) (by simp [execOp, h2.2.1, resolve, invoke, builtin, Ed1, Builtin.len_, r0, goInt]) F D hlen n2 (rfl) fun a F D hlen Ed2 X => ?_
 refine ops_valS (v := .int .i64 0) (v' := (.int .i64 0)) (w' := w) rfl h3.1 (unguarded h3.2.2) (by simp [execOp, h3.2.1, Act.eval]) F D hlen n3 (rfl) fun a F D hlen Ed3 X => ?_
 exact hK _ _ _ _ _ hk ⟨F, r.R, r.le, r.len, D⟩
def eRec (sS sI d0 d1 d2 kN N : Nat) (n : Nat) (L : Nat → Int × ByteArray) (sl : Value) (K : List Value → Xm → Prop) (vt : List Value) (m : Xm) : Prop :=
 match vt.getD sI undef with
 | .int .i64 i => (0 ≤ i ∧ i.toNat < n) ∧ vt.getD sS undef = sl ∧ m.length = kN ∧ vt.length = N ∧ K (((vt.set d0 .nilIface).set d1 .nilIface).set d2 (.pointer (some ⟨kN, 0, none⟩))) (m ++ [[.int .i64 (L i.toNat).1, .string (L i.toNat).2]])
 | _ => False
theorem eRec_sound {bs : List Nat} {w0 : World} {ds : List Deferred} {bl0 : Bl} {K : List Value → Xm → Prop} {Q : Exit → Act → World → Prop} {bl : Bl} {vt : List Value} {m : Xm} {a : Act} {w : World} {B : Nat} {ao : Option Addr} {n cap : Nat} {L : Nat → Int × ByteArray} {sl : Value} {ops : Array Oper} {id : Nat} {o0 o1 o2 o3 : Oper} {tS tR : TypeId} {sS sI d0 d1 d2 kN N : Nat} (n0 : d0 < N) (n1 : d1 < N) (n2 : d2 < N) (n3 : d2 ≠ d1) (hb0 : bl0[0]? = some (some B)) (hr : Recs w0 B ao n cap L sl) (hu : Tryz.prog.underlying tS = some (.slice tR)) (hz : qrun Tryz.prog (sizeOf tR) = some 2) (ha : qrun Tryz.prog (isAgg tR) = some true) {z : Value} (hzv : qrun Tryz.prog (zeroValue tR) = some z) (hzl : z.cells.toList.length = 2) (ho : ops = #[o0, o1, o2, o3])
    (h0 : o0.dst = some d0 ∧ o0.op = .indexAddr tS (.tmp sS) (.tmp sI) ∧ o0.guard = none) (h1 : o1.dst = some d1 ∧ o1.op = .load tR (.tmp d0) ∧ o1.guard = none) (h2 : o2.dst = some d2 ∧ o2.op = .alloc tR ∧ o2.guard = none) (h3 : o3.dst = none ∧ o3.op = .store tR (.tmp d2) (.tmp d1) ∧ o3.guard = none)
    (h : eRec sS sI d0 d1 d2 kN N n L sl K vt m) (r : Rl bs w0 ds bl0 bl vt m a w) (hK : ∀ bl vt m a w, K vt m → Rl bs w0 ds bl0 bl vt m a w → Q .normal a w) (hbs : B ∉ bs := by simp) : (Code.region id ops false).wp Tryz.prog Q a w := by
 subst ho
 have hlen := r.F.len
 unfold eRec at h
 split at h
 case h_2 => exact h.elim
 rename_i i hi
 obtain ⟨⟨hi0, hil⟩, hsl, hm5, hlt, hk⟩ := h
 rw [hlt] at hlen
 have hiv := r.F.rv sI
 rw [hi] at hiv
 have EsI : a.eval (.tmp sI) = .int .i64 i := hiv
 have hsv := r.F.rv sS
 rw [hsl] at hsv
 obtain ⟨o, rfl, c0, c1⟩ := hr.at_ i.toNat hil
 have EsS : a.eval (.tmp sS) = .slice (some ⟨B, o, none⟩) n cap := by
  have h1 := hr.rv bl (r.le 0 B hb0)
  match sl, h1, hsv with
  | .slice (some b) _ _, ⟨B1, hB1, e1⟩, ⟨B2, hB2, e2⟩ =>
   rw [hB1] at hB2
   cases hB2
   exact e2.trans e1.symm
  | .slice none _ _, h1, _ => cases h1
  | .nilIface, h1, _ => exact absurd (hr.idx hil) (by simp)
  | .pointer (some _), ⟨_, _, e1⟩, _ => cases e1
  | .pointer none, h1, _ => cases h1
  | .bool _, h1, _ => cases h1
  | .int _ _, h1, _ => cases h1
  | .float _ _, h1, _ => cases h1
  | .complex _ _ _, h1, _ => cases h1
  | .string _, h1, _ => cases h1
  | .map _, h1, _ => cases h1
  | .chan _, h1, _ => cases h1
  | .func _ _ _, h1, _ => cases h1
  | .nilFunc, h1, _ => cases h1
  | .iface _ _, h1, _ => cases h1
  | .agg _, h1, _ => cases h1
  | .tuple _, h1, _ => cases h1
 have hB : w.heap[B]? = w0.heap[B]? := r.R.block B hr.lies hbs
 rw [← cell_old hB] at c0 c1
 have rld := load_two (P := Tryz.prog) ha hz c0 c1
 have F := r.F
 have D := r.defers
 refine wp_region ?_
 have hil' : i < (n : Int) := by omega
 have r0 := run_under hu w
 have r1 := qrun_run _ hz w
 refine ops_valS (v := .nilIface) (v' := (.pointer (some ⟨B, o + i.toNat * 2, none⟩))) (w' := w) rfl h0.1 (unguarded h0.2.2) (by simp [execOp, h0.2.1, EsS, EsI, Instr.indexAt, asIntOf, r0, r1, hi0, hil', add_is, Sem.run_bind]) F D hlen n0 (rfl) fun a F D hlen Ed0 X => ?_
 refine ops_valS (v := .nilIface) (v' := (.agg #[.int .i64 (L i.toNat).1, .string (L i.toNat).2])) (w' := w) rfl h1.1 (unguarded h1.2.2) (by simp [execOp, h1.2.1, Ed0, Instr.loadAt, Instr.sureAddr, rld]) F D hlen n1 (rfl) fun a F D hlen Ed1 X => ?_
 have hw3 : (execOp a.eval o2).run Tryz.prog w = .ok (.value (.pointer (some ⟨w.heap.size, 0, none⟩))) (w.alloc (.cells z.cells.toList.toArray tR)) := by
  have r := qrun_run _ hzv w
  simp [execOp, h2.2.1, Instr.alloc, newVar, newRow, newObj, r, Sem.run]
 have hbl : bl.length = kN := r.len.trans hm5
 have WW := r.R.wide 1 [[.int .i64 (L i.toNat).1, .string (L i.toNat).2]]
 obtain ⟨N, hle⟩ := WW.new (k := kN) (by rw [List.getElem?_append_right (by omega), hbl, Nat.sub_self]; rfl) (by rw [List.length_append, hm5]; exact Nat.lt_succ_self kN) z.cells.toList tR
 have hg5 : ((bl ++ List.replicate 1 none).set kN (some w.heap.size))[kN]? = some (some w.heap.size) := List.getElem?_set_self (by rw [List.length_append, hbl]; exact Nat.lt_succ_self kN)
 have hm6 : ((m ++ [[Value.int .i64 (L i.toNat).1, Value.string (L i.toNat).2]]).set kN z.cells.toList)[kN]? = some z.cells.toList := List.getElem?_set_self (by rw [List.length_append, hm5]; exact Nat.lt_succ_self kN)
 obtain ⟨row, e5, A5⟩ := N.arr kN _ hg5
 rw [hm6] at e5
 cases e5
 have hst : storeV Tryz.prog tR z.cells.toList 0 (.agg #[.int .i64 (L i.toNat).1, .string (L i.toNat).2]) = some (setAt z.cells.toList 0 [.int .i64 (L i.toNat).1, .string (L i.toNat).2]) := by
  unfold storeV
  rw [hz]
  dsimp only
  rw [if_pos (by rw [hzl]; rfl)]
  rfl
 obtain ⟨r3, _, hl3⟩ := storeV_run hst A5
 have hL : Le bl ((bl ++ List.replicate 1 none).set kN (some w.heap.size)) := (Le.wide bl 1).trans hle
 have F := F.mono hL
 refine ops_valS (v := .pointer (some ⟨kN, 0, none⟩)) rfl h2.1 (unguarded h2.2.2) hw3 F D hlen n2 (RV.at hg5 0) fun a F D hlen Ed2 X => ?_
 have Ed1 := (X d1 n3).trans Ed1
 refine ops_skip (o := o3) (w' := wset (w.alloc (.cells z.cells.toList.toArray tR)) w.heap.size 0 [.int .i64 (L i.toNat).1, .string (L i.toNat).2]) rfl h3.2.2 ?_ ?_
 ·simp [execOp, h3.2.1, Ed2, Ed1, Instr.storeAt, Instr.sureAddr, r3]
  rfl
 rw [h3.1]
 have hrow5 : setAt z.cells.toList 0 [.int .i64 (L i.toNat).1, .string (L i.toNat).2] = [.int .i64 (L i.toNat).1, .string (L i.toNat).2] := by
  match z.cells.toList, hzl with
  | [_, _], _ => rfl
 have R5 := N.store hg5 hm6 0 [.int .i64 (L i.toNat).1, .string (L i.toNat).2] hl3
 rw [hrow5] at R5
 have hmm : ((m ++ [[Value.int .i64 (L i.toNat).1, Value.string (L i.toNat).2]]).set kN z.cells.toList).set kN [Value.int .i64 (L i.toNat).1, Value.string (L i.toNat).2] = m ++ [[Value.int .i64 (L i.toNat).1, Value.string (L i.toNat).2]] := by
  rw [List.set_set, List.set_append_right _ _ (by omega), hm5, Nat.sub_self]
  rfl
 rw [hmm] at R5
 exact hK _ _ _ _ _ hk ⟨F, R5, r.le.trans hL, by rw [List.length_set, List.length_append, List.length_append, hbl, hm5]; rfl, by rw [put_defers]; exact D⟩
theorem craft_self (c : Cra) (w : World) : (Op.equalIn 10000 50 (.agg (dCra.enc c).toArray) (.agg (dCra.enc c).toArray)).run Tryz.prog w = .ok true w := self_at 6 50 _ (by kernel_rfl) 9994 w
theorem craft_load (c : Cra) : loadV Tryz.prog 50 (dCra.enc c) 0 = some (.agg (dCra.enc c).toArray) := by kernel_rfl
end Go.Proofs.YteeohbiaclojaaaGreatDoor
namespace Go.Proofs.YteeohbiaclojaaaGreatDoor
open Go.RowKit
theorem kept_two {w w1 : World} {A B : Array Value} {t u : TypeId} (h : Below ((w.alloc (.cells A t)).alloc (.cells B u)).drew.heap.size ((w.alloc (.cells A t)).alloc (.cells B u)).drew w1) :
    Below (w.alloc (.cells A t)).heap.size (w.alloc (.cells A t)) w1 ∧ ∀ j, w1.cell? ⟨w.heap.size + 1, j, none⟩ = B[j]? := by
 have h' : Below ((w.alloc (.cells A t)).alloc (.cells B u)).heap.size ((w.alloc (.cells A t)).alloc (.cells B u)) w1 := ⟨h.os, h.tape, h.output, h.size, h.block⟩
 refine ⟨((Below.refl _ _).alloc (Nat.le_refl _) _).trans (h'.mono (by simp)), fun j => ?_⟩
 rw [h'.cell (p := ⟨w.heap.size + 1, j, none⟩) (by simp)]
 exact cell_top _ _ _ _ j (by simp)
theorem str_ne {s t : ByteArray} (h : t.data.toList ≠ s.data.toList) : (t.toList == s.toList) = false := by
 rw [Lib.toList_data, Lib.toList_data]
 simpa using h
def ropenS (s : ByteArray) : Int × ByteArray × Bool :=
 if 5 ≤ s.size ∧ s.size ≤ 69 ∧ wrapL (s.data.toList.getD 1 0) (s.extract 3 (s.size - 2)).data.toList = s.data.toList then (((s.data.toList.getD 1 0).toNat : Int), s.extract 3 (s.size - 2), true) else (0, ⟨#[]⟩, false)
theorem ropenS_yes {t : List UInt8} {x d : ByteArray} {k n : Nat} (h : look t = some (n + 1)) (hx : x.data.toList = t.take (n + 5)) (hd : d.data.toList = (t.drop 3).take n) (hk : (t.getD 1 0).toNat = k) : ropenS x = ((k : Int), d, true) := by
 obtain ⟨_, _, h64, h5, _⟩ := look_parts h
 have hs : x.size = n + 5 := by
  rw [Lib.size_eq, hx, List.length_take]
  omega
 have e1 : x.data.toList.getD 1 0 = t.getD 1 0 := by
  rw [hx]
  simp [List.getD_eq_getElem?_getD]
 have e2 : (x.extract 3 (x.size - 2)).data.toList = (t.drop 3).take n := by
  rw [extract_list, hx, List.drop_take, List.take_take, hs]
  congr 1
  omega
 unfold ropenS
 rw [if_pos ⟨by omega, by omega, by rw [e1, e2, hx, wrap_look h]⟩, e1, hk]
 have e3 : x.extract 3 (x.size - 2) = d := ByteArray.ext (Array.toList_inj.1 (by rw [e2, hd]))
 rw [e3]
set_option maxHeartbeats 1000000 in
set_option maxRecDepth 100000 in
theorem ropen_any (s : ByteArray) (w : World) (hmax : s.size ≤ 5000) :
    Calls Tryz.prog 18 #[.string s] w fun e w' => e = .returned (.tuple #[.agg #[.int .i64 (ropenS s).1, .string (ropenS s).2.1], .bool (ropenS s).2.2]) ∧ Below w.heap.size w w' := by
 by_cases h5 : s.size < 5
 ·have e : ropenS s = (0, ⟨#[]⟩, false) := by unfold ropenS; rw [if_neg (by omega)]
  rw [e]
  go_enter Tryz.func18, Tryz.ntmps18
  go_wp2
  refine bodyPost_ret (v := .tuple #[.agg #[.int .i64 0, .string ⟨#[]⟩], .bool false]) (by simp [results_cell_tmp Tryz.results18, asAddr, go_sem]) rfl ⟨rfl, ?_⟩
  exact (Below.refl _ w).alloc (Nat.le_refl _) _
 have l1 : 1 < s.size := by omega
 obtain ⟨k, hk⟩ : ∃ k, (s[1]'l1) = k := ⟨_, rfl⟩
 have hsl : ∀ W : World, (Instr.slice 9 (.string s) (some (.int .i64 3)) (some (.int .i64 ((s.size : Int) - 2))) none).run Tryz.prog W = .ok (.string (s.extract 3 (s.size - 2))) W := fun W => by
  rw [run_slice_string W 9 s .i64 .i64 3 ((s.size : Int) - 2) Tryz.underlying9 (by omega) (by omega) (by omega), show ((s.size : Int) - 2).toNat = s.size - 2 by omega]
  rfl
 obtain ⟨d, hd⟩ : ∃ d : ByteArray, d = s.extract 3 (s.size - 2) := ⟨_, rfl⟩
 rw [← hd] at hsl
 have hds : d.size = s.size - 5 := by rw [hd, ByteArray.size_extract]; omega
 have HD : Hid (d = s.extract 3 (s.size - 2)) := hd
 have hw2 : IntKind.i64.wrap ((s.size : Int) - 2) = (s.size : Int) - 2 := by rw [IntKind.wrap_i64]; omega
 obtain ⟨n, hn⟩ : ∃ n, k.toNat = n := ⟨_, rfl⟩
 have hk8 : n < 256 := by rw [← hn]; exact k.toNat_lt
 have hv : IntKind.i64.wrap (n : Int) = (n : Int) := by rw [IntKind.wrap_i64]; omega
 have HO : Hid (ropenS s = if s.size ≤ 69 ∧ wrapL k d.data.toList = s.data.toList then ((n : Int), d, true) else (0, ⟨#[]⟩, false)) := by
  show _ = _
  unfold ropenS
  rw [getD_of l1, hk, ← hd, hn]
  by_cases c : s.size ≤ 69 ∧ wrapL k d.data.toList = s.data.toList
  ·rw [if_pos c, if_pos ⟨by omega, c⟩]
  ·rw [if_neg c, if_neg (fun h => c h.2)]
 clear hd
 by_cases h69 : s.size ≤ 69
 ·have hw := fun W => rwrap_yes k d W (by omega)
  rw [hn] at hw
  by_cases c : wrapL k d.data.toList = s.data.toList
  ·rw [HO.out, if_pos ⟨h69, c⟩]
   have HC : Hid (wrapL k d.data.toList = s.data.toList) := c
   clear c
   go_enter Tryz.func18, Tryz.ntmps18
   go_wp2
   go_region
   go_wp2_with (go_at_call 5; refine (hw _).mono ?_; rintro e w1 ⟨t, rfl, ht, hb1⟩; obtain rfl : t = s := ByteArray.ext (Array.toList_inj.1 (ht.trans HC.out)); obtain ⟨hb2, kc⟩ := kept_two hb1; have k0 := cell_kept0 hb2; have k1 := cell_kept1 hb2; have f0 := free_kept0 hb2; have f1 := free_kept1 hb2; have k2 : w1.cell? ⟨w.heap.size + 1, 0, none⟩ = some (.int .i64 (n : Int)) := kc 0; have k3 : w1.cell? ⟨w.heap.size + 1, 1, none⟩ = some (.string d) := kc 1; clear kc ht)
   refine bodyPost_ret (v := .tuple #[.agg #[.int .i64 (n : Int), .string d], .bool true]) (by simp [results_cell_tmp Tryz.results18, asAddr, go_sem, k0, k1]) rfl ⟨rfl, ?_⟩
   exact ((below_kept hb2).setCell (Nat.le_refl _) _).setCell (Nat.le_refl _) _
  ·rw [HO.out, if_neg (fun h => c h.2)]
   have HC : Hid (wrapL k d.data.toList ≠ s.data.toList) := c
   clear c
   go_enter Tryz.func18, Tryz.ntmps18
   go_wp2
   go_region
   go_wp2_with (go_at_call 5; refine (hw _).mono ?_; rintro e w1 ⟨t, rfl, ht, hb1⟩; have hne := str_ne (t := t) (s := s) (by rw [ht]; exact HC.out); obtain ⟨hb2, kc⟩ := kept_two hb1; have k0 := cell_kept0 hb2; have k1 := cell_kept1 hb2; have f0 := free_kept0 hb2; have f1 := free_kept1 hb2; clear kc ht)
   refine bodyPost_ret (v := .tuple #[.agg #[.int .i64 0, .string ⟨#[]⟩], .bool false]) (by simp [results_cell_tmp Tryz.results18, asAddr, go_sem, k0, k1]) rfl ⟨rfl, ?_⟩
   exact ((below_kept hb2).setCell (Nat.le_refl _) _).setCell (Nat.le_refl _) _
 ·rw [HO.out, if_neg (fun h => h69 h.1)]
  have hw := fun W => rwrap_no n d W (by omega)
  go_enter Tryz.func18, Tryz.ntmps18
  go_wp2
  go_region
  go_wp2_with (go_at_call 5; refine (hw _).mono ?_; rintro e w1 ⟨rfl, hb1⟩; obtain ⟨hb2, kc⟩ := kept_two hb1; have k0 := cell_kept0 hb2; have k1 := cell_kept1 hb2; have f0 := free_kept0 hb2; have f1 := free_kept1 hb2; clear kc)
  refine bodyPost_ret (v := .tuple #[.agg #[.int .i64 0, .string ⟨#[]⟩], .bool false]) (by simp [results_cell_tmp Tryz.results18, asAddr, go_sem, k0, k1]) rfl ⟨rfl, ?_⟩
  exact ((below_kept hb2).setCell (Nat.le_refl _) _).setCell (Nat.le_refl _) _
end Go.Proofs.YteeohbiaclojaaaGreatDoor
namespace Go.Proofs.YteeohbiaclojaaaGreatDoor
open Go.RowKit
set_option maxRecDepth 100000
set_option maxHeartbeats 20000000
theorem rtRight_any (T : Tl) (w : World) : Calls Tryz.prog 44 #[.agg #[.int .i64 T.t, .int .i64 T.m, .int .i64 T.fa, .int .i64 T.ak, .int .i64 T.er, .int .i64 T.rj, .int .i64 T.q0, .int .i64 T.q1, .int .i64 T.q2, .int .i64 T.q3, .int .i64 T.d0, .int .i64 T.d1, .int .i64 T.d2]] w fun e w' => e = .returned (.bool (tlOk T)) ∧ Below w.heap.size w w' := by
 have HO : Hid (tlOk T = (cRight T.t && inR T.m 0 3 && inR T.fa 0 15 && inR T.ak 0 255 && inR T.er 0 255 && inR T.rj 0 65535 && inR T.q0 (-32768) 32767 && inR T.q1 (-32768) 32767 && inR T.q2 (-32768) 32767 && inR T.q3 (-32768) 32767 && inR T.d0 (-32768) 32767 && inR T.d1 (-32768) 32767 && inR T.d2 (-32768) 32767)) := rfl
 generalize tlOk T = ok at HO ⊢
 have hct := fun W => dRight_any T.t W
 generalize cRight T.t = xt at hct HO
 have hm := fun W => rin_any T.m 0 3 W
 generalize inR T.m 0 3 = xm at hm HO
 have hfa := fun W => rin_any T.fa 0 15 W
 generalize inR T.fa 0 15 = xfa at hfa HO
 have hak := fun W => rin_any T.ak 0 255 W
 generalize inR T.ak 0 255 = xak at hak HO
 have her := fun W => rin_any T.er 0 255 W
 generalize inR T.er 0 255 = xer at her HO
 have hrj := fun W => rin_any T.rj 0 65535 W
 generalize inR T.rj 0 65535 = xrj at hrj HO
 have hq0 := fun W => rin_any T.q0 (-32768) 32767 W
 generalize inR T.q0 (-32768) 32767 = xq0 at hq0 HO
 have hq1 := fun W => rin_any T.q1 (-32768) 32767 W
 generalize inR T.q1 (-32768) 32767 = xq1 at hq1 HO
 have hq2 := fun W => rin_any T.q2 (-32768) 32767 W
 generalize inR T.q2 (-32768) 32767 = xq2 at hq2 HO
 have hq3 := fun W => rin_any T.q3 (-32768) 32767 W
 generalize inR T.q3 (-32768) 32767 = xq3 at hq3 HO
 have hd0 := fun W => rin_any T.d0 (-32768) 32767 W
 generalize inR T.d0 (-32768) 32767 = xd0 at hd0 HO
 have hd1 := fun W => rin_any T.d1 (-32768) 32767 W
 generalize inR T.d1 (-32768) 32767 = xd1 at hd1 HO
 have hd2 := fun W => rin_any T.d2 (-32768) 32767 W
 generalize inR T.d2 (-32768) 32767 = xd2 at hd2 HO
 have A := Arr_at w w.heap.size [.int .i64 T.t, .int .i64 T.m, .int .i64 T.fa, .int .i64 T.ak, .int .i64 T.er, .int .i64 T.rj, .int .i64 T.q0, .int .i64 T.q1, .int .i64 T.q2, .int .i64 T.q3, .int .i64 T.d0, .int .i64 T.d1, .int .i64 T.d2] 59 rfl
 clear A
 go_enter Tryz.func44, Tryz.ntmps44
 have A := Arr_at w w.heap.size [.int .i64 T.t, .int .i64 T.m, .int .i64 T.fa, .int .i64 T.ak, .int .i64 T.er, .int .i64 T.rj, .int .i64 T.q0, .int .i64 T.q1, .int .i64 T.q2, .int .i64 T.q3, .int .i64 T.d0, .int .i64 T.d1, .int .i64 T.d2] 59 rfl
 go_wp2_with fail
 refine (hct _).mono ?_
 rintro e X ⟨rfl, bk⟩
 have A := A.below bk
 have L := bel_then (bel_al (Below.refl _ _) _) bk
 clear bk
 have az := A.lies
 have a1 : X.cell? ⟨w.heap.size, 1, none⟩ = some (.int .i64 T.m) := A.c 1 (zD rfl)
 have a2 : X.cell? ⟨w.heap.size, 2, none⟩ = some (.int .i64 T.fa) := A.c 2 (zD rfl)
 have a3 : X.cell? ⟨w.heap.size, 3, none⟩ = some (.int .i64 T.ak) := A.c 3 (zD rfl)
 have a4 : X.cell? ⟨w.heap.size, 4, none⟩ = some (.int .i64 T.er) := A.c 4 (zD rfl)
 have a5 : X.cell? ⟨w.heap.size, 5, none⟩ = some (.int .i64 T.rj) := A.c 5 (zD rfl)
 have a6 : X.cell? ⟨w.heap.size, 6, none⟩ = some (.int .i64 T.q0) := A.c 6 (zD rfl)
 have a7 : X.cell? ⟨w.heap.size, 7, none⟩ = some (.int .i64 T.q1) := A.c 7 (zD rfl)
 have a8 : X.cell? ⟨w.heap.size, 8, none⟩ = some (.int .i64 T.q2) := A.c 8 (zD rfl)
 have a9 : X.cell? ⟨w.heap.size, 9, none⟩ = some (.int .i64 T.q3) := A.c 9 (zD rfl)
 have a10 : X.cell? ⟨w.heap.size, 10, none⟩ = some (.int .i64 T.d0) := A.c 10 (zD rfl)
 have a11 : X.cell? ⟨w.heap.size, 11, none⟩ = some (.int .i64 T.d1) := A.c 11 (zD rfl)
 have a12 : X.cell? ⟨w.heap.size, 12, none⟩ = some (.int .i64 T.d2) := A.c 12 (zD rfl)
 cases xt
 case false =>
  go_wp2_with fail
  refine wp_loop_rounds 5 ?_
  rw [rounds_succ]
  go_wp2_with fail
  rw [rounds_succ]
  go_wp2_with fail
  rw [rounds_succ]
  go_wp2_with fail
  rw [rounds_succ]
  go_wp2_with fail
  rw [rounds_succ]
  go_wp2_with fail
  refine wp_loop_rounds 4 ?_
  rw [rounds_succ]
  go_wp2_with fail
  rw [rounds_succ]
  go_wp2_with fail
  rw [rounds_succ]
  go_wp2_with fail
  rw [rounds_succ]
  go_wp2_with (with_reducible refine post_stop ?_)
  exact ⟨bodyPost_ret (v := .bool false) (by simp [results, Tryz.results44, go_sem]) rfl ⟨by rw [HO.out]; simp, L⟩⟩
 go_wp2_with fail
 refine (hm _).mono ?_
 rintro e Y ⟨rfl, rfl⟩
 cases xm
 case false =>
  go_wp2_with fail
  refine wp_loop_rounds 5 ?_
  rw [rounds_succ]
  go_wp2_with fail
  rw [rounds_succ]
  go_wp2_with fail
  rw [rounds_succ]
  go_wp2_with fail
  rw [rounds_succ]
  go_wp2_with fail
  rw [rounds_succ]
  go_wp2_with fail
  refine wp_loop_rounds 4 ?_
  rw [rounds_succ]
  go_wp2_with fail
  rw [rounds_succ]
  go_wp2_with fail
  rw [rounds_succ]
  go_wp2_with fail
  rw [rounds_succ]
  go_wp2_with (with_reducible refine post_stop ?_)
  exact ⟨bodyPost_ret (v := .bool false) (by simp [results, Tryz.results44, go_sem]) rfl ⟨by rw [HO.out]; simp, L⟩⟩
 go_wp2_with fail
 refine (hfa _).mono ?_
 rintro e Y ⟨rfl, rfl⟩
 cases xfa
 case false =>
  go_wp2_with fail
  refine wp_loop_rounds 5 ?_
  rw [rounds_succ]
  go_wp2_with fail
  rw [rounds_succ]
  go_wp2_with fail
  rw [rounds_succ]
  go_wp2_with fail
  rw [rounds_succ]
  go_wp2_with fail
  rw [rounds_succ]
  go_wp2_with fail
  refine wp_loop_rounds 4 ?_
  rw [rounds_succ]
  go_wp2_with fail
  rw [rounds_succ]
  go_wp2_with fail
  rw [rounds_succ]
  go_wp2_with fail
  rw [rounds_succ]
  go_wp2_with (with_reducible refine post_stop ?_)
  exact ⟨bodyPost_ret (v := .bool false) (by simp [results, Tryz.results44, go_sem]) rfl ⟨by rw [HO.out]; simp, L⟩⟩
 go_wp2_with fail
 refine (hak _).mono ?_
 rintro e Y ⟨rfl, rfl⟩
 cases xak
 case false =>
  go_wp2_with fail
  refine wp_loop_rounds 5 ?_
  rw [rounds_succ]
  go_wp2_with fail
  rw [rounds_succ]
  go_wp2_with fail
  rw [rounds_succ]
  go_wp2_with fail
  rw [rounds_succ]
  go_wp2_with fail
  rw [rounds_succ]
  go_wp2_with fail
  refine wp_loop_rounds 4 ?_
  rw [rounds_succ]
  go_wp2_with fail
  rw [rounds_succ]
  go_wp2_with fail
  rw [rounds_succ]
  go_wp2_with fail
  rw [rounds_succ]
  go_wp2_with (with_reducible refine post_stop ?_)
  exact ⟨bodyPost_ret (v := .bool false) (by simp [results, Tryz.results44, go_sem]) rfl ⟨by rw [HO.out]; simp, L⟩⟩
 go_wp2_with fail
 refine (her _).mono ?_
 rintro e Y ⟨rfl, rfl⟩
 cases xer
 case false =>
  go_wp2_with fail
  refine wp_loop_rounds 5 ?_
  rw [rounds_succ]
  go_wp2_with fail
  rw [rounds_succ]
  go_wp2_with fail
  rw [rounds_succ]
  go_wp2_with fail
  rw [rounds_succ]
  go_wp2_with fail
  rw [rounds_succ]
  go_wp2_with fail
  refine wp_loop_rounds 4 ?_
  rw [rounds_succ]
  go_wp2_with fail
  rw [rounds_succ]
  go_wp2_with fail
  rw [rounds_succ]
  go_wp2_with fail
  rw [rounds_succ]
  go_wp2_with (with_reducible refine post_stop ?_)
  exact ⟨bodyPost_ret (v := .bool false) (by simp [results, Tryz.results44, go_sem]) rfl ⟨by rw [HO.out]; simp, L⟩⟩
 go_wp2_with fail
 refine (hrj _).mono ?_
 rintro e Y ⟨rfl, rfl⟩
 cases xrj
 case false =>
  go_wp2_with fail
  refine wp_loop_rounds 5 ?_
  rw [rounds_succ]
  go_wp2_with fail
  rw [rounds_succ]
  go_wp2_with fail
  rw [rounds_succ]
  go_wp2_with fail
  rw [rounds_succ]
  go_wp2_with fail
  rw [rounds_succ]
  go_wp2_with fail
  refine wp_loop_rounds 4 ?_
  rw [rounds_succ]
  go_wp2_with fail
  rw [rounds_succ]
  go_wp2_with fail
  rw [rounds_succ]
  go_wp2_with fail
  rw [rounds_succ]
  go_wp2_with (with_reducible refine post_stop ?_)
  exact ⟨bodyPost_ret (v := .bool false) (by simp [results, Tryz.results44, go_sem]) rfl ⟨by rw [HO.out]; simp, L⟩⟩
 go_wp2_with fail
 refine wp_loop_rounds 5 ?_
 rw [rounds_succ]
 go_wp2_with fail
 refine (hq0 _).mono ?_
 rintro e X ⟨rfl, rfl⟩
 cases xq0
 case false =>
  go_wp2_with fail
  rw [rounds_succ]
  go_wp2_with fail
  rw [rounds_succ]
  go_wp2_with fail
  rw [rounds_succ]
  go_wp2_with fail
  rw [rounds_succ]
  go_wp2_with fail
  refine wp_loop_rounds 4 ?_
  rw [rounds_succ]
  go_wp2_with fail
  rw [rounds_succ]
  go_wp2_with fail
  rw [rounds_succ]
  go_wp2_with fail
  rw [rounds_succ]
  go_wp2_with (with_reducible refine post_stop ?_)
  exact ⟨bodyPost_ret (v := .bool false) (by simp [results, Tryz.results44, go_sem]) rfl ⟨by rw [HO.out]; simp, L⟩⟩
 go_wp2_with fail
 rw [rounds_succ]
 go_wp2_with fail
 refine (hq1 _).mono ?_
 rintro e X ⟨rfl, rfl⟩
 cases xq1
 case false =>
  go_wp2_with fail
  rw [rounds_succ]
  go_wp2_with fail
  rw [rounds_succ]
  go_wp2_with fail
  rw [rounds_succ]
  go_wp2_with fail
  refine wp_loop_rounds 4 ?_
  rw [rounds_succ]
  go_wp2_with fail
  rw [rounds_succ]
  go_wp2_with fail
  rw [rounds_succ]
  go_wp2_with fail
  rw [rounds_succ]
  go_wp2_with (with_reducible refine post_stop ?_)
  exact ⟨bodyPost_ret (v := .bool false) (by simp [results, Tryz.results44, go_sem]) rfl ⟨by rw [HO.out]; simp, L⟩⟩
 go_wp2_with fail
 rw [rounds_succ]
 go_wp2_with fail
 refine (hq2 _).mono ?_
 rintro e X ⟨rfl, rfl⟩
 cases xq2
 case false =>
  go_wp2_with fail
  rw [rounds_succ]
  go_wp2_with fail
  rw [rounds_succ]
  go_wp2_with fail
  refine wp_loop_rounds 4 ?_
  rw [rounds_succ]
  go_wp2_with fail
  rw [rounds_succ]
  go_wp2_with fail
  rw [rounds_succ]
  go_wp2_with fail
  rw [rounds_succ]
  go_wp2_with (with_reducible refine post_stop ?_)
  exact ⟨bodyPost_ret (v := .bool false) (by simp [results, Tryz.results44, go_sem]) rfl ⟨by rw [HO.out]; simp, L⟩⟩
 go_wp2_with fail
 rw [rounds_succ]
 go_wp2_with fail
 refine (hq3 _).mono ?_
 rintro e X ⟨rfl, rfl⟩
 cases xq3
 case false =>
  go_wp2_with fail
  rw [rounds_succ]
  go_wp2_with fail
  refine wp_loop_rounds 4 ?_
  rw [rounds_succ]
  go_wp2_with fail
  rw [rounds_succ]
  go_wp2_with fail
  rw [rounds_succ]
  go_wp2_with fail
  rw [rounds_succ]
  go_wp2_with (with_reducible refine post_stop ?_)
  exact ⟨bodyPost_ret (v := .bool false) (by simp [results, Tryz.results44, go_sem]) rfl ⟨by rw [HO.out]; simp, L⟩⟩
 go_wp2_with fail
 rw [rounds_succ]
 go_wp2_with fail
 refine wp_loop_rounds 4 ?_
 rw [rounds_succ]
 go_wp2_with fail
 refine (hd0 _).mono ?_
 rintro e X ⟨rfl, rfl⟩
 cases xd0
 case false =>
  go_wp2_with fail
  rw [rounds_succ]
  go_wp2_with fail
  rw [rounds_succ]
  go_wp2_with fail
  rw [rounds_succ]
  go_wp2_with (with_reducible refine post_stop ?_)
  exact ⟨bodyPost_ret (v := .bool false) (by simp [results, Tryz.results44, go_sem]) rfl ⟨by rw [HO.out]; simp, L⟩⟩
 go_wp2_with fail
 rw [rounds_succ]
 go_wp2_with fail
 refine (hd1 _).mono ?_
 rintro e X ⟨rfl, rfl⟩
 cases xd1
 case false =>
  go_wp2_with fail
  rw [rounds_succ]
  go_wp2_with fail
  rw [rounds_succ]
  go_wp2_with (with_reducible refine post_stop ?_)
  exact ⟨bodyPost_ret (v := .bool false) (by simp [results, Tryz.results44, go_sem]) rfl ⟨by rw [HO.out]; simp, L⟩⟩
 go_wp2_with fail
 rw [rounds_succ]
 go_wp2_with fail
 refine (hd2 _).mono ?_
 rintro e X ⟨rfl, rfl⟩
 cases xd2
 case false =>
  go_wp2_with fail
  rw [rounds_succ]
  go_wp2_with (with_reducible refine post_stop ?_)
  exact ⟨bodyPost_ret (v := .bool false) (by simp [results, Tryz.results44, go_sem]) rfl ⟨by rw [HO.out]; simp, L⟩⟩
 go_wp2_with fail
 rw [rounds_succ]
 go_wp2_with (with_reducible refine post_stop ?_)
 exact ⟨bodyPost_ret (v := .bool true) (by simp [results, Tryz.results44, go_sem]) rfl ⟨by rw [HO.out]; simp, L⟩⟩
end Go.Proofs.YteeohbiaclojaaaGreatDoor
