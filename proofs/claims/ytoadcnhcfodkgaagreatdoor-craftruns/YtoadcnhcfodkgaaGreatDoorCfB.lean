/-
  A step of the code's craft and one of the document's, from a craft that steps led to, for the seat YtoadcnhcfodkgaaGreatDoor.
-/
import Derived.Test.YtoadcnhcfodkgaaGreatDoorCfA
import Derived.Test.YtoadcnhcfodkgaaGreatDoorCwK
import Derived.Test.YtoadcnhcfodkgaaGreatDoorDsM
namespace Go.Proofs.YtoadcnhcfodkgaaGreatDoor
open Go.RowKit

/-- A function with a flow answers one thing. -/
theorem flow_det {P : Program} {fn : Nat} {A R : Type} {d : Dl A} {c : Dc R} {g g' : Bool → A → R × Bool} (hi : P.inits.idxOf? fn = none) (h : FlowOk P fn d g c) (k : FlowOk P fn d g' c) (bad : Bool) (x : A) : c.enc (g bad x).1 = c.enc (g' bad x).1 ∧ (g bad x).2 = (g' bad x).2 :=
  Nx.CallsOk.det hi (rest := d.enc x) ⟨d.np x, c.np _, fun b w hg hb hw => h b bad x w hg hb hw⟩ ⟨d.np x, c.np _, fun b w hg hb hw => k b bad x w hg hb hw⟩
def cfNor : Ct Tryz.prog := flowCt Tryz.prog 135 (then' cI (then' cI (lone' cI))) (fun bad x => normS bad x.1 x.2.1 x.2.2) cI (go_of Tryz.func135 (by kernel_rfl) (by kernel_rfl)) (fun b bad x w _ _ hw => Norm_any b bad x.1 x.2.1 x.2.2 w hw)
theorem cfNorm_ok : FlowOk Tryz.prog 46 (lone' (cT 3)) (fun bad p => normS bad p.1 p.2.1 p.2.2.1) cI := flow_sx (tbl := [cfNor]) (dirty := fun _ => []) (n := 2) xmixA Tryz.func46 rfl (fun bad x Post => by kernel_rfl)
theorem norm_small {a b c : Int} (ha : -32768 ≤ a ∧ a ≤ 32767) (hb : -32768 ≤ b ∧ b ≤ 32767) (hc : -32768 ≤ c ∧ c ≤ 32767) : (normS false (a * 33554432) (b * 33554432) (c * 33554432)).2 = false := by
  have sq : ∀ x : Int, -32768 ≤ x ∧ x ≤ 32767 → 0 ≤ x * 33554432 * (x * 33554432) ∧ x * 33554432 * (x * 33554432) ≤ 1208925819614629174706176 := fun x hx => by
    have h1 : 0 ≤ x * 33554432 * (x * 33554432) := by
      rcases Int.le_total 0 (x * 33554432) with h | h
      · exact Int.mul_nonneg h h
      · exact Int.mul_nonneg_of_nonpos_of_nonpos h h
    refine ⟨h1, ?_⟩
    rcases Int.le_total 0 (x * 33554432) with h | h
    · exact Int.mul_le_mul (show x * 33554432 ≤ 1099511627776 by omega) (show x * 33554432 ≤ 1099511627776 by omega) h (by decide)
    · have := Int.mul_le_mul (show -(x * 33554432) ≤ 1099511627776 by omega) (show -(x * 33554432) ≤ 1099511627776 by omega) (by omega) (by decide)
      rw [Int.neg_mul_neg] at this
      exact this
  have s1 := sq a ha
  have s2 := sq b hb
  have s3 := sq c hc
  have hs := isq_spec (a * 33554432 * (a * 33554432) + b * 33554432 * (b * 33554432) + c * 33554432 * (c * 33554432)) (by omega) (by omega)
  have lt : isq (a * 33554432 * (a * 33554432) + b * 33554432 * (b * 33554432) + c * 33554432 * (c * 33554432)) ≤ 4611686018427387904 := by
    refine Int.not_lt.1 fun h => ?_
    have := Int.mul_le_mul (Int.le_of_lt h) (Int.le_of_lt h) (by decide) hs.1
    have := hs.2.1
    omega
  have hn : ∀ x : Int, -32768 ≤ x ∧ x ≤ 32767 → numB (x * 33554432) = true := fun x hx => numB_of ⟨by omega, by omega⟩
  rw [normS_make (hn a ha) (hn b hb) (hn c hc) hs.1 lt hs.2.1 hs.2.2]
/-! ### What is heard -/
theorem readT_yes {k : Int} {s : ByteArray} (h : readOk k s = true) : readT (k, s) = ((k, tickS s, (saidV k s 6).1, (saidV k s 6).2.1, (saidV k s 6).2.2, ()), true) := (readT_if k s).trans (if_pos h)
theorem readT_no {k : Int} {s : ByteArray} (h : readOk k s = false) : readT (k, s) = zero5 := (readT_if k s).trans (if_neg (by rw [h]; decide))
theorem readT_kind (f : Fra) (h : (readT f).2 = true) : (readT f).1.1 = f.1 := by
  obtain ⟨k, s⟩ := f
  cases e : readOk k s
  · rw [readT_no e] at h
    cases h
  · rw [readT_yes e]
theorem readT_tick (f : Fra) : 0 ≤ (readT f).1.2.1 ∧ (readT f).1.2.1 ≤ 157766400000 := by
  obtain ⟨k, s⟩ := f
  cases e : readOk k s
  · rw [readT_no e]
    exact ⟨Int.le_refl 0, show (0 : Int) ≤ 157766400000 by decide⟩
  · rw [readT_yes e]
    unfold readOk at e
    simp only [Bool.and_eq_true] at e
    exact right_in e.1.2
/-- Rates as a frame has them. -/
def GyI (r : Tup 5) : Prop := ∃ a b c : Int, (-32768 ≤ a ∧ a ≤ 32767) ∧ (-32768 ≤ b ∧ b ≤ 32767) ∧ (-32768 ≤ c ∧ c ≤ 32767) ∧ r.2.2 = (a * 33554432, b * 33554432, c * 33554432, ())
theorem readT_gyro (f : Fra) (h : (readT f).2 = true) (hk : (readT f).1.1 = 1) : GyI (readT f).1 := by
  have e := readT_kind f h
  obtain ⟨k, s⟩ := f
  dsimp only at e
  rw [hk] at e
  subst e
  cases e : readOk 1 s
  · rw [readT_no e] at h
    cases h
  · rw [readT_yes e]
    have c : ∀ i, cnt s i < 65536 := fun i => by
      unfold cnt
      have := bt_lt s i
      have := bt_lt s (i + 1)
      omega
    exact ⟨sg (cnt s 6), sg (cnt s 8), sg (cnt s 10), sg_rng (c 6), sg_rng (c 8), sg_rng (c 10), rfl⟩
structure HeaI (x : Hea) : Prop where
  g : GyI x.1
  m : 0 ≤ x.2.2.1.2.1 ∧ x.2.2.1.2.1 ≤ 157766400000
section
variable {F D : Fs}
theorem HeaI.sen (hF : FsIs F) {c : Cra} {x : Hea} (f : Fra) (t : Int) (h : HeaI x) : HeaI (senW F c x f t).2 := by
  unfold senW
  rw [hF.read]
  split
  · exact h
  rename_i h1
  split
  · exact h
  split
  · rename_i h2
    exact ⟨readT_gyro f (by simpa using h1) (by simpa using h2), h.m⟩
  split
  · exact ⟨h.g, h.m⟩
  split
  · exact ⟨h.g, readT_tick f⟩
  · exact h
theorem HeaI.ord {c : Cra} {x : Hea} (o : Tup 9 × Int) (h : HeaI x) : HeaI (ordC c x o).2 := by
  unfold ordC
  split
  · exact h
  split
  · exact ⟨h.g, h.m⟩
  split
  · exact ⟨h.g, h.m⟩
  split
  · exact h
  split
  · exact h
  · exact h
theorem HeaI.hear (hF : FsIs F) (t : Int) (s : Cra × Hea) (f : Fra) (h : HeaI s.2) : HeaI (hearW F t s f).2 := by
  unfold hearW
  split
  · exact h.sen hF f t
  split
  · exact h.sen hF f t
  split
  · exact h.sen hF f t
  split
  · exact h.ord _
  · exact h
theorem HeaI.all (hF : FsIs F) (t : Int) : ∀ (fs : List Fra) (s : Cra × Hea), HeaI s.2 → HeaI (fs.foldl (hearW F t) s).2
  | [], _, h => h
  | f :: fs, s, h => HeaI.all hF t fs (hearW F t s f) (HeaI.hear hF t s f h)
theorem take_hea (hF : FsIs F) (c : Cra) (t : Int) (b : ByteArray) : HeaI (takeW F c t b).2 := by
  unfold takeW
  exact HeaI.all hF t _ _ ⟨⟨0, 0, 0, by decide, by decide, by decide, rfl⟩, Int.le_refl 0, show (0 : Int) ≤ 157766400000 by decide⟩
theorem cfLook {s : List UInt8} (h : look s = none) : s.length ≤ 68 := by
  unfold look at h
  split at h
  · omega
  split at h
  · cases h
  split at h
  · omega
  split at h
  · cases h
  split at h
  · omega
  split at h
  · cases h
  · cases h
theorem cfScan : ∀ (f : Nat) (s : List UInt8), s.length ≤ f → (scanU f s).2.1.length ≤ 68
  | 0, s, h => by
    show s.length ≤ 68
    omega
  | f + 1, s, h => by
    unfold scanU
    split
    · rename_i e
      exact cfLook e
    · rename_i e
      have := look_len e
      exact cfScan f (s.drop 1) (by rw [List.length_drop]; omega)
    · rename_i n e
      have := look_len e
      exact cfScan f (s.drop (n + 5)) (by rw [List.length_drop]; omega)
theorem cfRest (L : List UInt8) : (restOf L).size ≤ 68 := cfScan _ L (Nat.le_refl _)
/-! ### A step -/
/-- When the field was last read. -/
def DrI (d : Dri) : Prop := -9223372036854775808 ≤ d.2.1 ∧ d.2.1 ≤ 9223372036854775807
theorem bstep_tick (hF : FsIs F) (x : Dri × Tup 3 × Int) : (F.bstep false x).1.2.1 = x.2.2 ∨ (F.bstep false x).1.2.1 = 0 := by
  have h := (flow_det (by decide +kernel) hF.ok.bstep cStep_fx false x).1
  have e : (F.bstep false x).1.2.1 = (driB (stepB false (drOf x.1) (v3Of x.2.1) x.2.2)).1.2.1 := by
    generalize (F.bstep false x).1 = u at h ⊢
    generalize (driB (stepB false (drOf x.1) (v3Of x.2.1) x.2.2)).1 = v at h ⊢
    have := congrArg (fun z => match z with
      | Value.agg cs => cs.toList[1]?
      | _ => none) h
    injection this with this
    injection this
  rw [e]
  unfold stepB
  split
  · dsimp only
    split
    · exact .inr rfl
    · exact .inl rfl
  · dsimp only
    split
    · exact .inr rfl
    · exact .inl rfl
theorem drift_in (hF : FsIs F) {d : Dri} {x : Hea} (hd : DrI d) (hx : HeaI x) : DrI (driftW F d x) := by
  unfold driftW
  split
  · exact hd
  · have hm := hx.m
    rcases bstep_tick hF (d, x.2.2.1.2.2, x.2.2.1.2.1) with e | e
    · unfold DrI
      rw [e]
      dsimp only
      omega
    · unfold DrI
      rw [e]
      decide
theorem fit_of (hF : FsIs F) {c : Cra} (hI : CInv c) (hd : DrI (cDrif c)) {t : Int} {b : ByteArray} (h : stays c t = false) : Fit F c t b := by
  obtain ⟨_, hr, hl⟩ := stays_no hF h b
  obtain ⟨hm, _⟩ := take_mid hF c hI.ak t b
  have hx := take_hea hF c t b
  obtain ⟨T, _⟩ := took_of hF hI t b hr hl
  have h1 := right_in hI.t
  refine ⟨fun f hf => ?_, fun h => ?_, ⟨h1.1, by omega⟩, hm.on, hm.tick, ?_, ?_, ?_, ?_⟩
  · rw [hF.read] at hf ⊢
    exact readT_kind f hf
  · rw [hF.right] at h
    have := right_in h
    exact ⟨this.1, by omega⟩
  · have e : cDrif (takeW F c t b).1 = cDrif c := hm.dri
    show DrI (cDrif (takeW F c t b).1)
    rw [e]
    exact hd
  · have := hx.m
    exact ⟨by omega, by omega⟩
  · obtain ⟨a1, a2, a3, g1, g2, g3, e⟩ := hx.g
    rw [(flow_det (by decide +kernel) hF.ok.norm cfNorm_ok false _).2, e]
    exact norm_small g1 g2 g3
  · have := tel_ok F T.inv
    unfold Tells
    rw [hF.write, hF.counts]
    exact this
/-- A step of the code's craft is the document's, and leads to a craft of the same kind. -/
theorem step_both (hF : FsIs F) (S : Same F D) (N : NextOk F) {c : Cra} (hI : CInv c) (hd : DrI (cDrif c)) (t : Int) (b : ByteArray) :
    stepD D c t (takeD D c t b) = stepF F c t b ∧ CInv (stepF F c t b).1 ∧ DrI (cDrif (stepF F c t b).1) ∧ ((stepF F c t b).1.2.2.1.size ≤ 68 ∨ (stepF F c t b).1.2.2.1 = c.2.2.1) := by
  cases h : stays c t
  · refine ⟨step_rel S N (fit_of hF hI hd h), (took hF hI b h).1.inv, ?_, ?_⟩
    · obtain ⟨e, hr, hl⟩ := stays_no hF h b
      rw [e]
      obtain ⟨hm, _⟩ := take_mid hF c hI.ak t b
      have hx := take_hea hF c t b
      unfold stepR
      dsimp only
      obtain ⟨g, s, e2, _, _⟩ := goW_is F (setDri (takeW F c t b).1 (driftW F (takeW F c t b).1.2.2.2.2.2.2.1 (takeW F c t b).2)) (takeW F c t b).2 t
      rw [e2]
      refine drift_in hF (d := cDrif (takeW F c t b).1) ?_ hx
      rw [hm.dri]
      exact hd
    · rw [(took hF hI b h).1.left]
      exact .inl (cfRest _)
  · have e := stays_yes hF h b
    rw [e]
    refine ⟨?_, hI, hd, .inr rfl⟩
    unfold stays at h
    unfold stepD
    rw [S.right, hF.right]
    cases hr : cRight t
    · rfl
    · rw [hr] at h
      simp only [Bool.not_true, Bool.false_or, Bool.and_eq_true, decide_eq_true_eq] at h
      simp only [Bool.not_true, Bool.false_eq_true, if_false]
      rw [if_pos h.1, if_pos h.2]
end
end Go.Proofs.YtoadcnhcfodkgaaGreatDoor
