/-
  A run over names: functions whole, and those that a run goes into, for the seat YtoadcnhcfodkgaaGreatDoor. No Go text in sight.
-/
import Derived.Test.YtoadcnhcfodkgaaGreatDoorNyC
namespace Go.Proofs.YtoadcnhcfodkgaaGreatDoor.Nx
open Go.RowKit Go.Proofs.YtoadcnhcfodkgaaGreatDoor

section
variable {P : Program} {σ : Type} {I : List Int → σ → Bool → Prop} {τ : List Int}
def resA (P : Program) (fn : Func) (at' : List Value) (m : Xm) : Option Value :=
  match resL P at' m fn.results.toList with
  | some [v] => some v
  | some vs => if vs.all notMulti then some (.tuple vs.toArray) else none
  | none => none
theorem resOne_nat {at' vt : List Value} {am m : Xm} (F : GF τ at' vt) (M : GM τ am m) {r : ResultVar} {t : Value} (h : resOne P at' am r = some t) : ∃ v, resOne P vt m r = some v ∧ G2 τ t v := by
  cases r with
  | tmp i =>
    simp only [resOne] at h ⊢
    have g := F.g i
    split at h
    · cases h
    · rename_i hp
      cases h
      rw [if_neg (by rw [g.isP]; exact hp)]
      exact ⟨_, rfl, g⟩
  | cell p t =>
    simp only [resOne] at h ⊢
    have g := F.g p
    split at h
    · rename_i k off hk
      rw [hk] at g
      rw [g.ptr]
      dsimp only
      split at h
      · rename_i l hl
        obtain ⟨l', hl', gl⟩ := M.g k l hl
        rw [hl']
        exact loadV_nat h gl
      · cases h
    · cases h
theorem resL_nat {at' vt : List Value} {am m : Xm} (F : GF τ at' vt) (M : GM τ am m) : ∀ (rs : List ResultVar) (ts : List Value), resL P at' am rs = some ts → ∃ vs, resL P vt m rs = some vs ∧ All2 (G2 τ) ts vs
  | [], ts, h => by cases h; exact ⟨[], rfl, trivial⟩
  | r :: rs, ts, h => by
    unfold resL at h ⊢
    split at h
    · rename_i t us h1 h2
      cases h
      obtain ⟨v, hv, g⟩ := resOne_nat F M h1
      obtain ⟨vs, hvs, gs⟩ := resL_nat F M rs us h2
      rw [hv, hvs]
      exact ⟨v :: vs, rfl, g, gs⟩
    · cases h
theorem all_g1 : ∀ {ts vs : List Value}, ts.all notMulti = true → All2 (G2 τ) ts vs → All2 (G1 τ) ts vs
  | [], [], _, _ => trivial
  | t :: ts, v :: vs, h, g => by
    simp only [List.all_cons, Bool.and_eq_true] at h
    refine ⟨?_, all_g1 h.2 g.2⟩
    have := g.1
    unfold G2 at this
    split at this
    · cases h.1
    · exact this
  | [], _ :: _, _, g => g.elim
  | _ :: _, [], _, g => g.elim
theorem resV_nat {fn : Func} {at' vt : List Value} {am m : Xm} (F : GF τ at' vt) (M : GM τ am m) {t : Value} (h : resA P fn at' am = some t) : ∃ v, resV P fn vt m = some v ∧ G2 τ t v := by
  unfold resA at h
  unfold resV
  cases hr : resL P at' am fn.results.toList with
  | none => rw [hr] at h; cases h
  | some ts =>
    obtain ⟨vs, hvs, g⟩ := resL_nat F M _ _ hr
    rw [hr] at h
    rw [hvs]
    match ts, vs, g, h with
    | [a], [b], g, h => cases h; exact ⟨b, rfl, g.1⟩
    | [], [], g, h => cases h; exact ⟨_, rfl, real2_same rfl⟩
    | a :: b :: ts, c :: d :: vs, g, h =>
      simp only at h
      split at h
      · rename_i hn
        cases h
        exact ⟨_, rfl, ⟨_, rfl, all_g1 hn g⟩⟩
      · cases h
theorem noP : ∀ {sa rest : List Value}, sa.all (fun x => !isP x) = true → All2 (G2 τ) sa rest → ∀ v ∈ rest, isP v = false
  | [], [], _, _, v, hv => by cases hv
  | a :: sa, r :: rest, h, g, v, hv => by
    simp only [List.all_cons, Bool.and_eq_true, Bool.not_eq_true'] at h
    rcases List.mem_cons.1 hv with rfl | hv
    · rw [g.1.isP]; exact h.1
    · exact noP h.2 g.2 v hv
  | [], _ :: _, _, g, _, _ => g.elim
  | _ :: _, [], _, g, _, _ => g.elim
theorem rep_get (n t : Nat) : ((List.replicate n undef)[t]?).getD undef = undef := by
  by_cases h : t < n
  · rw [List.getElem?_eq_getElem (by simpa using h), List.getElem_replicate]; rfl
  · rw [List.getElem?_eq_none (by simpa using h)]; rfl
theorem GF.start {sa vs : List Value} (g : All2 (G2 τ) sa vs) (n : Nat) : GF τ (sa ++ List.replicate (n - sa.length) undef) (vs ++ List.replicate (n - vs.length) undef) := by
  have hl := g.len
  refine ⟨by simp [hl], fun t => ?_⟩
  simp only [List.getD_eq_getElem?_getD]
  by_cases ht : t < sa.length
  · rw [List.getElem?_append_left ht, List.getElem?_append_left (by omega)]
    obtain ⟨b, hb, gb⟩ := g.get t _ (List.getElem?_eq_getElem ht)
    rw [hb, List.getElem?_eq_getElem ht]
    exact gb
  · rw [List.getElem?_append_right (by omega), List.getElem?_append_right (by omega), rep_get, rep_get]
    exact real2_same rfl
theorem flow_calls {tbl : List (Ct P)} {dirty : Nat → List Nat} {n : Nat} (hm : P.follows .mixedOrders = true) {f : Nat} {fn : Func} {c : Code} (hf : P.funcs[f]? = some fn) (hb : fn.body = some c) {rest : List Value} (hp : ∀ v ∈ rest, isP v = false) {bad bad' : Bool} {v0 : Value}
    (h : swp P tbl dirty n c (retQ P fn (fun v m => v = v0 ∧ flagOf m = some bad')) ((ptr 0 :: rest) ++ List.replicate (fn.ntmps - (ptr 0 :: rest).length) undef) [[.bool bad]]) (b : Nat) (w : World) (hg : GW w) (hb1 : 1 < b) (hw : Fl b bad w) :
    Calls P f (ptr b :: rest).toArray w fun e w' => e = .returned v0 ∧ Fl b bad' w' ∧ Kept b w w' := by
  have R : RW [b] w [some b] [[.bool bad]] w := by
    refine ⟨fun i B hi => ?_, fun i j B hi hj => ?_, fun i B hi => ?_, rfl, rfl, rfl, Nat.le_refl _, fun _ _ _ => rfl, hg, by simpa using hb1⟩
    · match i, hi with
      | 0, hi => cases hi; exact ⟨_, rfl, arr_fl hw⟩
    · match i, j, hi, hj with
      | 0, 0, _, _ => rfl
    · match i, hi with
      | 0, hi => cases hi; exact .inl List.mem_cons_self
  refine Calls.mono (calls_sx hm hf hb (vargs := ptr 0 :: rest) R rfl (by simp) (fun i => ?_) h) ?_
  · cases i with
    | zero => exact ⟨b, rfl, rfl⟩
    | succ i =>
      by_cases hi : i < rest.length
      · have := hp _ (List.getElem_mem hi)
        simp only [List.getD_eq_getElem?_getD, Array.getD_eq_getD_getElem?]
        simp [hi]
        exact .same this
      · simp only [List.getD_eq_getElem?_getD, Array.getD_eq_getD_getElem?]
        simp [hi]
        rfl
  · rintro e w' ⟨v, bl', m2, rfl, ⟨rfl, h2⟩, R', hle⟩
    obtain ⟨l, e, A⟩ := R'.arr 0 b (hle 0 b rfl)
    rw [flagOf_some h2] at e
    cases e
    exact ⟨rfl, fl_arr A, R'.os, R'.tape, R'.output, R'.size, fun i hi hb => R'.block i hi (by simpa using hb)⟩
theorem pure_calls {tbl : List (Ct P)} {dirty : Nat → List Nat} {n : Nat} (hm : P.follows .mixedOrders = true) {f : Nat} {fn : Func} {c : Code} (hf : P.funcs[f]? = some fn) (hb : fn.body = some c) {rest : List Value} (hp : ∀ v ∈ rest, isP v = false) {v0 : Value}
    (h : swp P tbl dirty n c (retQ P fn (fun v _ => v = v0)) (rest ++ List.replicate (fn.ntmps - rest.length) undef) []) (w : World) (hg : GW w) :
    Calls P f rest.toArray w fun e w' => e = .returned v0 ∧ Below w.heap.size w w' := by
  have R : RW [] w [] [] w := ⟨fun i B hi => (by cases hi), fun i j B hi => (by cases hi), fun i B hi => (by cases hi), rfl, rfl, rfl, Nat.le_refl _, fun _ _ _ => rfl, hg, fun b hb => by cases hb⟩
  refine Calls.mono (calls_sx hm hf hb (vargs := rest) R rfl (by simp) (fun i => ?_) h) ?_
  · by_cases hi : i < rest.length
    · have := hp _ (List.getElem_mem hi)
      simp only [List.getD_eq_getElem?_getD, Array.getD_eq_getD_getElem?]
      simp [hi]
      exact .same this
    · simp only [List.getD_eq_getElem?_getD, Array.getD_eq_getD_getElem?]
      simp [hi]
      rfl
  · rintro e w' ⟨v, bl', m2, rfl, rfl, R', _⟩
    exact ⟨rfl, R'.os, R'.tape, R'.output, R'.size, fun i hi => R'.block i hi (by simp)⟩
/-! What is answered, out of trees. -/
def resOneK (P : Program) (d n e : Nat) (T : Tr Value d) (nb : Nat) (M : Tr (List Value) e) (r : ResultVar) (K : Value → Bool) : Bool :=
  match r with
  | .tmp i => (opOf d n (.tmp i)).get T fun v => Bool.casesOn (motive := fun _ => Bool) (isP v) (K v) false
  | .cell p t => (opOf d n (.tmp p)).get T fun a => asPtr a fun k off => an (Nat.ble (Nat.succ k) nb) ((slot e k).get M fun row => loadK P t off row K)
def resLK (P : Program) (d n e : Nat) (T : Tr Value d) (nb : Nat) (M : Tr (List Value) e) : List ResultVar → (List Value → Bool) → Bool
  | [], K => K []
  | r :: rs, K => resOneK P d n e T nb M r fun v => resLK P d n e T nb M rs fun vs => K (v :: vs)
def resK (P : Program) (fn : Func) (d n e : Nat) (T : Tr Value d) (nb : Nat) (M : Tr (List Value) e) (K : Value → Bool) : Bool := resLK P d n e T nb M fn.results.toList fun vs => match vs with
  | [v] => K v
  | vs => an (vs.all notMulti) (K (.tuple ⟨vs⟩))
theorem resOneK_ok {d n e : Nat} {T : Tr Value d} {nb : Nat} {M : Tr (List Value) e} {r : ResultVar} {K : Value → Bool} (h : resOneK P d n e T nb M r K = true) : ∃ v, resOne P (toL d n T) (toL e nb M) r = some v ∧ K v = true := by
  cases r with
  | tmp i =>
    have h : (opOf d n (.tmp i)).get T (fun v => Bool.casesOn (motive := fun _ => Bool) (isP v) (K v) false) = true := h
    rw [opOf_is, VE_tmp] at h
    unfold resOne
    dsimp only
    cases hp : isP ((toL d n T).getD i undef) with
    | true => rw [hp] at h; cases h
    | false =>
      rw [hp] at h
      exact ⟨_, by rw [if_neg (by simp)], h⟩
  | cell p t =>
    have h : (opOf d n (.tmp p)).get T (fun a => asPtr a fun k off => an (Nat.ble (Nat.succ k) nb) ((slot e k).get M fun row => loadK P t off row K)) = true := h
    rw [opOf_is, VE_tmp] at h
    obtain ⟨k, off, hx, h⟩ := asPtr_ok h
    rw [an_is, slot_get] at h
    have hk := Nat.le_of_ble_eq_true h.1
    obtain ⟨v, hv, h⟩ := loadK_ok h.2
    refine ⟨v, ?_, h⟩
    unfold resOne
    dsimp only
    rw [hx]
    dsimp only
    rw [toL_at hk]
    exact hv
theorem resLK_ok {d n e : Nat} {T : Tr Value d} {nb : Nat} {M : Tr (List Value) e} : ∀ {rs : List ResultVar} {K : List Value → Bool}, resLK P d n e T nb M rs K = true → ∃ vs, resL P (toL d n T) (toL e nb M) rs = some vs ∧ K vs = true
  | [], _, h => ⟨[], rfl, h⟩
  | r :: rs, K, h => by
    obtain ⟨v, hv, h⟩ := resOneK_ok h
    obtain ⟨vs, hvs, h⟩ := resLK_ok h
    refine ⟨v :: vs, ?_, h⟩
    unfold resL
    rw [hv, hvs]
theorem resK_ok {fn : Func} {d n e : Nat} {T : Tr Value d} {nb : Nat} {M : Tr (List Value) e} {K : Value → Bool} (h : resK P fn d n e T nb M K = true) : ∃ v, resA P fn (toL d n T) (toL e nb M) = some v ∧ K v = true := by
  obtain ⟨vs, hvs, h⟩ := resLK_ok h
  unfold resA
  rw [hvs]
  split at h
  · exact ⟨_, rfl, h⟩
  · rename_i hn
    rw [an_is] at h
    refine ⟨_, ?_, h.2⟩
    split
    · rename_i e
      exact absurd (Option.some.inj e) (hn _)
    · rename_i e
      cases e
      rw [if_pos h.1]
    · rename_i e
      cases e
/-- A frame as it begins. -/
def startK (d : Nat) : List Value → Nat → Tr Value d → (Tr Value d → Bool) → Bool
  | [], _, T, K => K T
  | v :: r, i, T, K => (slot d i).set T v fun T => startK d r (Nat.succ i) T K
theorem full_toL {α : Type} (v : α) (d n : Nat) : toL d n (fullT v d) = List.replicate n v := by
  unfold toL
  refine List.ext_getElem? fun i => ?_
  rw [List.getElem?_map]
  by_cases h : i < n
  · rw [List.getElem?_range h, List.getElem?_eq_getElem (by simpa using h), List.getElem_replicate, Option.map_some, full_get]
  · rw [List.getElem?_eq_none (by simpa using h), List.getElem?_eq_none (by simpa using h)]
    rfl
theorem startK_ok {d n : Nat} (hn : n ≤ 8 ^ d) : ∀ (ns pre : List Value) (r : Nat) (T : Tr Value d) (K : Tr Value d → Bool), startK d ns pre.length T K = true → pre.length + ns.length + r = n → toL d n T = pre ++ List.replicate (ns.length + r) undef → ∃ T', K T' = true ∧ toL d n T' = pre ++ ns ++ List.replicate r undef
  | [], pre, r, T, K, h, _, hT => ⟨T, h, by rw [hT]; simp⟩
  | v :: ns, pre, r, T, K, h, hl, hT => by
    unfold startK at h
    rw [slot_set] at h
    rw [List.length_cons] at hl hT
    have h : startK d ns (pre ++ [v]).length (setT d T pre.length v) K = true := by rw [List.length_append]; exact h
    obtain ⟨T', hK, hT'⟩ := startK_ok hn ns (pre ++ [v]) r _ K h (by rw [List.length_append, List.length_singleton]; omega) (by
      rw [toL_set T v hn (by omega), hT, show ns.length + 1 + r = (ns.length + r) + 1 by omega, List.replicate_succ, List.set_append_right _ _ (Nat.le_refl _), Nat.sub_self, List.set_cons_zero, List.append_assoc]
      rfl)
    exact ⟨T', hK, by rw [hT']; simp⟩
/-- What is answered goes on. -/
def finA (P : Program) (fn : Func) (d n e : Nat) (K : Value → Value → Fct → σ → Bool) : AK d e σ := fun T nb M F s => an (Nat.ble 1 nb) (resK P fn d n e T nb M fun t => (slot e 0).get M fun row => match row with
  | [c] => an (!isP t) (K t c F s)
  | _ => false)
def retA (P : Program) (fn : Func) (d n e : Nat) (K : Value → Value → Fct → σ → Bool) : AQ d e σ := fun x T nb M F s =>
  match x with
  | .normal => finA P fn d n e K T nb M F s
  | .ret => finA P fn d n e K T nb M F s
  | _ => false
def dpt (fn : Func) : Nat := Nat.succ (Nat.div (Nat.log2 fn.ntmps) 3)
/-- A function of a flow, run from its beginning. -/
def runF (P : Program) (eq : EqT σ) (tbl : List (Rw σ)) (dirty : Nat → List Nat) (lim : Nat) (fn : Func) (c : Code) (args : List Value) (b : Value) (F : Fct) (s : σ) (K : Value → Value → Fct → σ → Bool) : Bool :=
  an (Nat.ble (Nat.succ args.length) fn.ntmps) (an (Nat.ble fn.ntmps (8 ^ dpt fn)) (an (args.all fun x => !isP x) (startK (dpt fn) (ptr 0 :: args) 0 (fullT undef (dpt fn)) fun T => (slot 3 0).set (fullT [] 3) [b] fun M => (dsw P true tbl (dpt fn) fn.ntmps 3 dirty lim eq c).run (retA P fn (dpt fn) fn.ntmps 3 K) T 1 M F s)))
theorem runF_ok {eq : EqT σ} (heq : EqOk I eq) {tbl : List (Rw σ)} (hT : TOk P I tbl) {dirty : Nat → List Nat} {n : Nat} (hm : P.follows .mixedOrders = true) {f : Nat} {fn : Func} {c : Code} (hf : P.funcs[f]? = some fn) (hb : fn.body = some c)
    {args rest : List Value} {b : Value} {F : Fct} {s : σ} {K : Value → Value → Fct → σ → Bool} {bad : Bool} (h : runF P eq tbl dirty n fn c args b F s K = true) (g : All2 (G2 τ) args rest) (gb : G0 τ b (.bool bad)) (hF : FctOk τ F) (hI : I τ s bad) :
    ∃ v bad' τ' t c' F' s', K t c' F' s' = true ∧ (∀ u ∈ rest, isP u = false) ∧ isP v = false ∧ (∀ b w, GW w → 1 < b → Fl b bad w → Calls P f (ptr b :: rest).toArray w fun e w' => e = .returned v ∧ Fl b bad' w' ∧ Kept b w w') ∧ Ext τ τ' ∧ G2 τ' t v ∧ G0 τ' c' (.bool bad') ∧ FctOk τ' F' ∧ I τ' s' bad' := by
  unfold runF at h
  simp only [an_is] at h
  obtain ⟨hl, hn, ha, h⟩ := h
  have hl := Nat.le_of_ble_eq_true hl
  have hn := Nat.le_of_ble_eq_true hn
  have hp := noP ha g
  have gl := g.len
  obtain ⟨T0, h, hT0⟩ := startK_ok hn (ptr 0 :: args) [] (fn.ntmps - (ptr 0 :: args).length) _ _ h (by rw [List.length_cons, List.length_nil]; omega) (by rw [full_toL, List.length_cons, List.nil_append]; congr 1; omega)
  rw [slot_set] at h
  have hM : toL 3 1 (setT 3 (fullT ([] : List Value) 3) 0 [b]) = [[b]] := by
    rw [toL_set _ _ (by omega) (by omega), full_toL]
    rfl
  have M0 : GM τ [[b]] [[.bool bad]] := ⟨rfl, fun k l hl => by
    match k, hl with
    | 0, hl => cases hl; exact ⟨_, rfl, gb, trivial⟩⟩
  have R0 : Rep I true (dpt fn) fn.ntmps 3 τ T0 1 (setT 3 (fullT ([] : List Value) 3) 0 [b]) F s ((ptr 0 :: rest) ++ List.replicate (fn.ntmps - (ptr 0 :: rest).length) undef) [[.bool bad]] :=
    ⟨by rw [hT0, List.nil_append]; exact GF.start (sa := ptr 0 :: args) (vs := ptr 0 :: rest) ⟨⟨rfl, rfl⟩, g⟩ fn.ntmps, by rw [hM]; exact M0, by omega, hF, fun _ => ⟨bad, rfl, hI⟩⟩
  obtain ⟨e, vt, m, τ1, T1, nb1, M1, F1, s1, h1, hx, R1, hs⟩ := dsw_ok (hT := hT) hn heq c _ τ _ _ _ F s _ _ h R0
  obtain ⟨b', i1, i2⟩ := R1.iv rfl
  have chk : finA P fn (dpt fn) fn.ntmps 3 K T1 nb1 M1 F1 s1 = true ∧ ∀ Post, retQ P fn Post e vt m ↔ (match resV P fn vt m with
      | some v => Post v m
      | none => False) := by
    unfold retA at h1
    split at h1
    · exact ⟨h1, fun _ => Iff.rfl⟩
    · exact ⟨h1, fun _ => Iff.rfl⟩
    · cases h1
  obtain ⟨hc, hret⟩ := chk
  unfold finA at hc
  rw [an_is] at hc
  have hnb := Nat.le_of_ble_eq_true hc.1
  obtain ⟨t, ht, hc⟩ := resK_ok hc.2
  rw [slot_get] at hc
  split at hc
  · rename_i c' hrow
    rw [an_is, Bool.not_eq_true'] at hc
    obtain ⟨v, hv, gv⟩ := resV_nat R1.gf R1.gm ht
    have hflag : flagOf m = some b' := by
      match m, i1 with
      | l :: _, i1 =>
        have : l = [.bool b'] := by simpa using i1
        rw [this]
        rfl
    have gl := R1.gm.get (show (toL 3 nb1 M1)[0]? = some [c'] by rw [toL_at hnb, hrow]) i1
    exact ⟨v, b', τ1, t, c', F1, s1, hc.2, hp, by rw [gv.isP]; exact hc.1, flow_calls hm hf hb hp (hs _ ((hret _).2 (by rw [hv]; exact ⟨rfl, hflag⟩))), hx.1, gv, gl.1, R1.ff, i2⟩
  · cases hc
def finP (P : Program) (fn : Func) (d n e : Nat) (K : Value → Fct → Bool) : AK d e σ := fun T nb M F _ => resK P fn d n e T nb M fun t => an (!isP t) (K t F)
def retP (P : Program) (fn : Func) (d n e : Nat) (K : Value → Fct → Bool) : AQ d e σ := fun x T nb M F s =>
  match x with
  | .normal => finP P fn d n e K T nb M F s
  | .ret => finP P fn d n e K T nb M F s
  | _ => false
def runP (P : Program) (eq : EqT σ) (tbl : List (Rw σ)) (dirty : Nat → List Nat) (lim : Nat) (fn : Func) (c : Code) (args : List Value) (F : Fct) (s : σ) (K : Value → Fct → Bool) : Bool :=
  an (Nat.ble args.length fn.ntmps) (an (Nat.ble fn.ntmps (8 ^ dpt fn)) (an (args.all fun x => !isP x) (startK (dpt fn) args 0 (fullT undef (dpt fn)) fun T => (dsw P false tbl (dpt fn) fn.ntmps 3 dirty lim eq c).run (retP P fn (dpt fn) fn.ntmps 3 K) T 0 (fullT [] 3) F s)))
theorem runP_ok {eq : EqT σ} (heq : EqOk I eq) {tbl : List (Rw σ)} (hT : TOk P I tbl) {dirty : Nat → List Nat} {n : Nat} (hm : P.follows .mixedOrders = true) {f : Nat} {fn : Func} {c : Code} (hf : P.funcs[f]? = some fn) (hb : fn.body = some c)
    {args rest : List Value} {F : Fct} {s : σ} {K : Value → Fct → Bool} (h : runP P eq tbl dirty n fn c args F s K = true) (g : All2 (G2 τ) args rest) (hF : FctOk τ F) :
    ∃ v t F', K t F' = true ∧ (∀ u ∈ rest, isP u = false) ∧ isP v = false ∧ (∀ w, GW w → Calls P f rest.toArray w fun e w' => e = .returned v ∧ Below w.heap.size w w') ∧ G2 τ t v ∧ FctOk τ F' := by
  unfold runP at h
  simp only [an_is] at h
  obtain ⟨hl, hn, ha, h⟩ := h
  have hl := Nat.le_of_ble_eq_true hl
  have hn := Nat.le_of_ble_eq_true hn
  have hp := noP ha g
  obtain ⟨T0, h, hT0⟩ := startK_ok hn args [] (fn.ntmps - args.length) _ _ h (by rw [List.length_nil]; omega) (by rw [full_toL, List.nil_append]; congr 1; omega)
  have R0 : Rep I false (dpt fn) fn.ntmps 3 τ T0 0 (fullT ([] : List Value) 3) F s (rest ++ List.replicate (fn.ntmps - rest.length) undef) [] :=
    ⟨by rw [hT0, List.nil_append]; exact GF.start g fn.ntmps, ⟨rfl, fun k l hl => (by cases hl)⟩, by omega, hF, fun e => by cases e⟩
  obtain ⟨e, vt, m, τ1, T1, nb1, M1, F1, s1, h1, hx, R1, hs⟩ := dsw_ok (hT := hT) hn heq c _ τ _ _ _ F s _ _ h R0
  obtain rfl := hx.2 rfl
  have chk : finP P fn (dpt fn) fn.ntmps 3 K T1 nb1 M1 F1 s1 = true ∧ ∀ Post, retQ P fn Post e vt m ↔ (match resV P fn vt m with
      | some v => Post v m
      | none => False) := by
    unfold retP at h1
    split at h1
    · exact ⟨h1, fun _ => Iff.rfl⟩
    · exact ⟨h1, fun _ => Iff.rfl⟩
    · cases h1
  obtain ⟨hc, hret⟩ := chk
  unfold finP at hc
  obtain ⟨t, ht, hc⟩ := resK_ok hc
  rw [an_is, Bool.not_eq_true'] at hc
  obtain ⟨v, hv, gv⟩ := resV_nat R1.gf R1.gm ht
  exact ⟨v, t, F1, hc.2, hp, by rw [gv.isP]; exact hc.1, pure_calls hm hf hb hp (hs _ ((hret _).2 (by rw [hv]))), gv, R1.ff⟩
end
/-! ### A call ends in one way -/
theorem run_on {P : Program} : ∀ (a b : Nat) (m m1 m2 : Machine), runN P a m = .next m1 → runN P (a + b) m = .next m2 → runN P b m1 = .next m2
  | 0, b, m, m1, m2, h, k => by
    simp only [runN, Stepped.next.injEq] at h
    subst h
    rw [Nat.zero_add] at k
    exact k
  | a + 1, b, m, m1, m2, h, k => by
    rw [Nat.add_right_comm] at k
    simp only [runN] at h k
    cases hs : step P m with
    | next x => rw [hs] at h k; exact run_on a b x m1 m2 h k
    | _ => rw [hs] at h; cases h
theorem run_stop {P : Program} {m m2 : Machine} {o : Outcome} {w : World} (h : step P m = .ended o w) : ∀ {b : Nat}, runN P b m = .next m2 → m = m2
  | 0, k => by simpa [runN] using k
  | b + 1, k => by
    simp only [runN, h] at k
    cases k
theorem calls_both {P : Program} {f : Nat} {args : Array Value} {w : World} {R S : Ending → World → Prop} (hi : P.inits.idxOf? f = none) (h : Calls P f args w R) (k : Calls P f args w S) (hR : ∀ e w', R e w' → ∃ v, e = .returned v) (hS : ∀ e w', S e w' → ∃ v, e = .returned v) :
    ∃ e w', R e w' ∧ S e w' := by
  obtain ⟨e1, w1, fr1, h1, c1, f1, l1⟩ := h []
  obtain ⟨e2, w2, fr2, h2, c2, f2, l2⟩ := k []
  obtain ⟨v1, rfl⟩ := hR _ _ h1
  obtain ⟨v2, rfl⟩ := hS _ _ h2
  obtain ⟨n1, r1⟩ := c1
  obtain ⟨n2, r2⟩ := c2
  have s1 := step_leave_done l1 (by rw [f1]; exact hi)
  have s2 := step_leave_done l2 (by rw [f2]; exact hi)
  have e : lone fr1 [] w1 = lone fr2 [] w2 := by
    rcases Nat.le_total n1 n2 with hn | hn
    · obtain ⟨d, rfl⟩ := Nat.le.dest hn
      exact run_stop s1 (run_on n1 d _ _ _ r1 r2)
    · obtain ⟨d, rfl⟩ := Nat.le.dest hn
      exact (run_stop s2 (run_on n2 d _ _ _ r2 r1)).symm
  unfold lone at e
  simp only [Machine.mk.injEq, Array.mk.injEq, List.cons.injEq, Goroutine.mk.injEq, and_true] at e
  obtain ⟨rfl, rfl⟩ := e
  obtain ⟨_, _, _, fn, hf, hr⟩ := l1
  obtain ⟨_, _, _, fn', hf', hr'⟩ := l2
  rw [hf] at hf'
  cases hf'
  rw [hr] at hr'
  simp only [Result.ok.injEq, and_true] at hr'
  subst hr'
  exact ⟨_, _, h1, h2⟩
end Go.Proofs.YtoadcnhcfodkgaaGreatDoor.Nx
