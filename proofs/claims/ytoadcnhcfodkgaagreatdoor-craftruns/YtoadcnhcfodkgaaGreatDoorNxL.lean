/-
  A run over names: a pair of functions by its two codes, for the seat YtoadcnhcfodkgaaGreatDoor.
-/
import Derived.Test.YtoadcnhcfodkgaaGreatDoorNxK
namespace Go.Proofs.YtoadcnhcfodkgaaGreatDoor.Nx
open Go.RowKit Go.Proofs.YtoadcnhcfodkgaaGreatDoor

section
variable {P : Program}
def allO {P : Program} (d : Bool) : Nat → List (Pr P) → List (Rw (Nat × List Nd))
  | _, [] => []
  | i, pr :: l => (match pureK pr.kind with
    | true => rowPO pr d i
    | false => rowO pr d i) :: allO d (i + 1) l
def allC {P : Program} (ks : List Nat) (d : Bool) : Nat → List (Pr P) → List (Rw Tb)
  | _, [] => []
  | i, pr :: l => (match pureK pr.kind with
    | true => rowPC pr d i
    | false => rowC pr ks d i) :: allC ks d (i + 1) l
theorem allO_ok {prs : List (Pr P)} {d : Bool} : ∀ (i : Nat) (l : List (Pr P)), (∀ j pr, l[j]? = some pr → prs[i + j]? = some pr) → TOk P (IO prs d) (allO d i l)
  | _, [], _ => fun a ha => by cases ha
  | i, pr :: l, h => fun a ha => by
    rcases List.mem_cons.1 ha with rfl | ha
    · split
      · exact rowPO_ok d (h 0 pr rfl)
      · exact rowO_ok d (h 0 pr rfl)
    · exact allO_ok (i + 1) l (fun j x hx => by have := h (j + 1) x (by simpa using hx); rw [Nat.add_assoc, Nat.add_comm 1 j]; exact this) a ha
theorem allC_ok {prs : List (Pr P)} {ks : List Nat} (hks : ks = prs.map (·.kind)) {d : Bool} : ∀ (i : Nat) (l : List (Pr P)), (∀ j pr, l[j]? = some pr → prs[i + j]? = some pr) → TOk P (IC prs d) (allC ks d i l)
  | _, [], _ => fun a ha => by cases ha
  | i, pr :: l, h => fun a ha => by
    rcases List.mem_cons.1 ha with rfl | ha
    · split
      · exact rowPC_ok d (h 0 pr rfl)
      · exact rowC_ok hks d (h 0 pr rfl)
    · exact allC_ok hks (i + 1) l (fun j x hx => by have := h (j + 1) x (by simpa using hx); rw [Nat.add_assoc, Nat.add_comm 1 j]; exact this) a ha
theorem self_at (prs : List (Pr P)) : ∀ j pr, prs[j]? = some pr → prs[0 + j]? = some pr := fun j pr h => by rw [Nat.zero_add]; exact h
/-- A function that is there may be entered. -/
def there (P : Program) (f : Nat) : Bool :=
  match P.funcs[f]? with
  | some fn => !(fn.name == "runtime.NumGoroutine") && !fn.body.isNone
  | none => false
theorem there_go {f : Nat} (h : there P f = true) (args : Array Value) (w : World) : (callFunc f args).run P w = .ok (.enter f args) w := by
  unfold there at h
  split at h
  · rename_i fn hf
    simp only [Bool.and_eq_true, Bool.not_eq_true'] at h
    exact go_of hf h.1 h.2 args w
  · cases h
/-- The first ones innermost. -/
def into {σ : Type} (eq : EqT σ) : List Ent → List (Rw σ) → List (Rw σ)
  | [], l => l
  | e :: r, l => into eq r (rowE eq l e :: l)
theorem into_ok (hm : P.follows .mixedOrders = true) {σ : Type} {I : List Int → σ → Bool → Prop} {eq : EqT σ} (heq : EqOk I eq) : ∀ (fs : List Ent), (∀ e ∈ fs, EntOk P e) → ∀ (l : List (Rw σ)), TOk P I l → TOk P I (into eq fs l)
  | [], _, _, h => h
  | e :: r, he, l, h => into_ok hm heq r (fun x hx => he x (List.mem_cons_of_mem _ hx)) _ fun a ha => by
    rcases List.mem_cons.1 ha with rfl | ha
    · exact rowE_ok hm heq h (he _ List.mem_cons_self)
    · exact h a ha
def ownB (P : Program) (l : List (Rw (Nat × List Nd))) (f : Nat) (fl : Bool) (n : Nat) (sa : List Value) (sr : Value) : Bool :=
  match P.funcs[f]? with
  | some fn => (match fn.body with
    | some c => (match fl with
      | true => badR P [] l (fun _ => []) n fn c sa sr 0
      | false => pureR P l n fn c sa sr)
    | none => false)
  | none => false
def entB (P : Program) (l : List (Rw (Nat × List Nd))) : List Ent → Bool
  | [] => true
  | (f, fl, n, sa, sr) :: r => there P f && sa.all nn2 && nn2 sr && (!neL sa || ownB P l f fl n sa sr) && entB P (rowE eqO l (f, fl, n, sa, sr) :: l) r
theorem entB_ok (hm : P.follows .mixedOrders = true) {prs : List (Pr P)} {d : Bool} : ∀ (fs : List Ent) (l : List (Rw (Nat × List Nd))), TOk P (IO prs d) l → entB P l fs = true → ∀ e ∈ fs, EntOk P e
  | [], _, _, _ => fun e he => by cases he
  | (f, fl, n, sa, sr) :: r, l, hl, h => by
    unfold entB at h
    simp only [Bool.and_eq_true] at h
    obtain ⟨⟨⟨⟨h1, h2⟩, h3⟩, h4⟩, h5⟩ := h
    have this : EntOk P (f, fl, n, sa, sr) := by
      have key : neL sa = true → ownB P l f fl n sa sr = true := fun e => by
        rw [e] at h4
        simpa using h4
      unfold ownB at key
      refine ⟨there_go h1, h2, h3, fun ne e => ?_, fun ne e => ?_⟩
      · have h4 := key ne
        have e : fl = true := e
        subst e
        split at h4
        · rename_i fn hf
          split at h4
          · rename_i c hb
            exact fun rest g => (badR_ok hm (kk := 0) (fun e => absurd rfl e) hl hf hb h3 h4 rest g).imp fun v k => ⟨k.1, k.2.1⟩
          · cases h4
        · cases h4
      · have h4 := key ne
        have e : fl = false := e
        subst e
        split at h4
        · rename_i fn hf
          split at h4
          · rename_i c hb
            exact pureR_ok hm hl hf hb h3 h4
          · cases h4
        · cases h4
    intro e he
    rcases List.mem_cons.1 he with rfl | he
    · exact this
    · exact entB_ok hm r _ (fun a ha => by
        rcases List.mem_cons.1 ha with rfl | ha
        · exact rowE_ok hm eqO_ok hl this
        · exact hl a ha) h5 e he
/-- All that a pair's checks ask, in pieces, each to be checked by itself (ro, rc: what is known of functions). -/
def onF (P : Program) (f : Nat) (k : Func → Code → Bool) : Bool :=
  match P.funcs[f]? with
  | some fn => (match fn.body with
    | some c => k fn c
    | none => false)
  | none => false
theorem onF_is {f : Nat} {k : Func → Code → Bool} (h : onF P f k = true) : ∃ fn c, P.funcs[f]? = some fn ∧ fn.body = some c ∧ k fn c = true := by
  unfold onF at h
  split at h
  · rename_i fn hf
    split at h
    · rename_i c hc
      exact ⟨fn, c, hf, hc, h⟩
    · cases h
  · cases h
abbrev RoT := Bool → List (Rw (Nat × List Nd))
abbrev RcT := Bool → List (Rw Tb)
def chkA (P : Program) (ro : RoT) (xa xb : List Ent) (a b : Nat) (sr : Value) : Bool :=
  nn2 sr && (P.inits.idxOf? a).isNone && (P.inits.idxOf? b).isNone && entB P (ro false) xa && entB P (ro true) xb
/-- d: the side that is run first. -/
def chkH (P : Program) (ro : RoT) (rc : RcT) (ks : List Nat) (d : Bool) (xa xb : List Ent) (da db : Nat → List Nat) (n : Nat) (a b : Nat) (sa : List Value) (sr : Value) (kk : Nat) : Bool :=
  onF P a fun fa ca => onF P b fun fb cb => half P ks (into eqO xa (ro d)) da n fa ca (into eqC xb (rc d)) db n fb cb sa sr kk
def chkB (P : Program) (ro : RoT) (ks : List Nat) (d : Bool) (xa : List Ent) (da : Nat → List Nat) (n : Nat) (a : Nat) (sa : List Value) (sr : Value) (kk : Nat) : Bool :=
  onF P a fun fa ca => badR P ks (into eqO xa (ro d)) da n fa ca sa sr kk
def chk (P : Program) (ro : RoT) (rc : RcT) (ks : List Nat) (xa xb : List Ent) (da db : Nat → List Nat) (n : Nat) (a b : Nat) (sa : List Value) (sr : Value) (kk : Nat) : Bool :=
  okKind kk && chkA P ro xa xb a b sr && chkH P ro rc ks false xa xb da db n a b sa sr kk && chkH P ro rc ks true xb xa db da n b a sa sr kk && chkB P ro ks false xa da n a sa sr kk && chkB P ro ks true xb db n b sa sr kk
theorem chk_of {ro : RoT} {rc : RcT} {ks : List Nat} {a b : Nat} {xa xb : List Ent} {da db : Nat → List Nat} {n : Nat} {sa : List Value} {sr : Value} {kk : Nat}
    (h0 : okKind kk = true) (h1 : chkA P ro xa xb a b sr = true) (h2 : chkH P ro rc ks false xa xb da db n a b sa sr kk = true) (h3 : chkH P ro rc ks true xb xa db da n b a sa sr kk = true) (h4 : chkB P ro ks false xa da n a sa sr kk = true) (h5 : chkB P ro ks true xb db n b sa sr kk = true) :
    chk P ro rc ks xa xb da db n a b sa sr kk = true := by
  unfold chk
  rw [h0, h1, h2, h3, h4, h5]
  rfl
theorem pair_of (hm : P.follows .mixedOrders = true) {prs : List (Pr P)} {ks : List Nat} {ro : RoT} {rc : RcT} (hO : ∀ d, TOk P (IO prs d) (ro d)) (hC : ∀ d, TOk P (IC prs d) (rc d)) (hks : ks = prs.map (·.kind)) {a b : Nat} {xa xb : List Ent} {da db : Nat → List Nat} {n : Nat} {sa : List Value} {sr : Value} {kk : Nat}
    (h : chk P ro rc ks xa xb da db n a b sa sr kk = true) : ∃ g, PrOk P (fun d => bif d then b else a) sa sr kk g := by
  unfold chk at h
  simp only [Bool.and_eq_true] at h
  obtain ⟨⟨⟨⟨⟨hkk, h0⟩, h1⟩, h2⟩, h3⟩, h4⟩ := h
  unfold chkA at h0
  simp only [Bool.and_eq_true] at h0
  obtain ⟨⟨⟨⟨hsr, i1⟩, i2⟩, x1⟩, x2⟩ := h0
  obtain ⟨fa, ca, ha, hca, h1⟩ := onF_is h1
  obtain ⟨fb, cb, hb, hcb, h1⟩ := onF_is h1
  obtain ⟨fb', cb', hb', hcb', h2⟩ := onF_is h2
  obtain ⟨fa', ca', ha', hca', h2⟩ := onF_is h2
  have ga := entB_ok hm xa _ (hO false) x1
  have gb := entB_ok hm xb _ (hO true) x2
  refine pr_of hkk (fun d => ?_) (half_ok hm hks (into_ok hm eqO_ok xa ga _ (hO false)) ha hca (into_ok hm eqC_ok xb gb _ (hC false)) hb hcb hsr h1) (half_ok hm hks (into_ok hm eqO_ok xb gb _ (hO true)) hb' hcb' (into_ok hm eqC_ok xa ga _ (hC true)) ha' hca' hsr h2) (fun d => ?_)
  · cases d
    · exact Option.isNone_iff_eq_none.1 i1
    · exact Option.isNone_iff_eq_none.1 i2
  · cases d
    · obtain ⟨fa, ca, ha, hca, h3⟩ := onF_is h3
      exact badR_ok hm (fun _ => hks) (into_ok hm eqO_ok xa ga _ (hO false)) ha hca hsr h3
    · obtain ⟨fb, cb, hb, hcb, h4⟩ := onF_is h4
      exact badR_ok hm (fun _ => hks) (into_ok hm eqO_ok xb gb _ (hO true)) hb hcb hsr h4
theorem there_two {a b : Nat} (h : (there P a && there P b) = true) (d : Bool) (args : Array Value) (w : World) : (callFunc (bif d then b else a) args).run P w = .ok (.enter (bif d then b else a) args) w := by
  rw [Bool.and_eq_true] at h
  cases d
  · exact there_go h.1 args w
  · exact there_go h.2 args w
/-- A pair, for others. -/
def mkP (a b : Nat) {sa : List Value} {sr : Value} {k : Nat} (hg : (there P a && there P b) = true) (hn : (sa.all nn2 && nn2 sr) = true) (h : ∃ g, PrOk P (fun d => bif d then b else a) sa sr k g) : Pr P := ⟨fun d => bif d then b else a, there_two hg, sa, sr, k, hn, fun r => r, fun _ _ => rfl, h⟩
end
/-! ### Here -/
theorem fl_go (d : Bool) (args : Array Value) (w : World) : (callFunc (bif d then 68 else 121) args).run Tryz.prog w = .ok (.enter (bif d then 68 else 121) args) w := goP (go_of Tryz.func121 (by kernel_rfl) (by kernel_rfl)) (go_of Tryz.func68 (by kernel_rfl) (by kernel_rfl)) d args w
theorem fl_ok (d b : Bool) : CallsOk Tryz.prog (bif d then 68 else 121) b [] undef true := by
  cases d
  · exact fail_ok b
  · exact rfail_ok b
/-- The tables of a pair that leans on others alone. -/
def flN (d : Bool) : Nat := bif d then 68 else 121
def tO (prs : List (Pr Tryz.prog)) : RoT := fun d => rowFail (flN d) :: allO d 0 prs
def tC (prs : List (Pr Tryz.prog)) (ks : List Nat) : RcT := fun d => rowFail (flN !d) :: allC ks d 0 prs
theorem tO_ok (prs : List (Pr Tryz.prog)) (d : Bool) : TOk Tryz.prog (IO prs d) (tO prs d) := fun a ha => by
  rcases List.mem_cons.1 ha with rfl | ha
  · exact rowFail_ok (fl_go d) (fun _ _ _ h => ⟨h.1, fun e => (by cases e), h.2.2⟩) (fl_ok d)
  · exact allO_ok 0 prs (self_at prs) a ha
theorem tC_ok {prs : List (Pr Tryz.prog)} {ks : List Nat} (hks : ks = prs.map (·.kind)) (d : Bool) : TOk Tryz.prog (IC prs d) (tC prs ks d) := fun a ha => by
  rcases List.mem_cons.1 ha with rfl | ha
  · exact rowFail_ok (fl_go !d) (fun _ _ _ h => h) (fl_ok !d)
  · exact allC_ok hks 0 prs (self_at prs) a ha
abbrev prs0 : List (Pr Tryz.prog) := [pAdd, pSub, pMul, pDiv, pMod, pPart, pNorm, pSqrt]
abbrev ks0 : List Nat := [1, 3, 2, 3, 3, 3, 3, 3]
end Go.Proofs.YtoadcnhcfodkgaaGreatDoor.Nx
