/-
  A run over names: filter's means and means of products, cell by cell, for the seat YtoadcnhcfodkgaaGreatDoor.
-/
import Derived.Test.YtoadcnhcfodkgaaGreatDoorNxR
import Derived.Test.YtoadcnhcfodkgaaGreatDoorFCProd
import Derived.Test.YtoadcnhcfodkgaaGreatDoorFCMean
import Derived.Test.YtoadcnhcfodkgaaGreatDoorFRProd
import Derived.Test.YtoadcnhcfodkgaaGreatDoorFRMean
import Derived.Test.YtoadcnhcfodkgaaGreatDoorFEqA
namespace Go.Proofs.YtoadcnhcfodkgaaGreatDoor.Nx
open Go.RowKit Go.Proofs.YtoadcnhcfodkgaaGreatDoor

def rowD (v : Value) : Nat → Int := fun i => match v with
  | .agg cs => (match cs.toList[i]? with
    | some (.int _ x) => x
    | _ => 0)
  | _ => 0
theorem rowD_is {n : Nat} {v : Value} (h : G2 [] (rI n) v) : v = .agg (row n (rowD v)).toArray := by
  obtain ⟨l, rfl, hl⟩ := h
  have hl : All2 (G0 []) (List.replicate n uI) l := hl
  have e : l = row n (rowD (.agg ⟨l⟩)) := by
    have hlen := hl.len
    rw [List.length_replicate] at hlen
    refine List.ext_getElem? fun i => ?_
    by_cases hi : i < n
    · obtain ⟨v, hv, x, e⟩ := hl.get i uI (by rw [List.getElem?_replicate, if_pos hi])
      rw [hv, List.getElem?_eq_getElem (by rw [row_len]; exact hi), row_get (by rw [row_len]; exact hi), e]
      have : rowD (.agg ⟨l⟩) i = x := by
        show (match l[i]? with
          | some (.int _ x) => x
          | _ => 0) = x
        rw [hv, e]
      rw [this]
    · rw [List.getElem?_eq_none (by omega), List.getElem?_eq_none (by rw [row_len]; omega)]
  exact congrArg (fun l => Value.agg ⟨l⟩) e
theorem row_ints (n : Nat) (g : Nat → Int) : (Value.agg (row n g).toArray) = .agg ⟨((List.range n).map g).map (Value.int .i64)⟩ := by
  unfold row
  rw [List.map_map]
  rfl
theorem one_rest {s : Value} {rest : List Value} (h : All2 (G2 []) [s] rest) : ∃ v, rest = [v] ∧ G2 [] s v := by
  match rest, h with
  | [v], h => exact ⟨v, rfl, h.1⟩
theorem two_rest {s t : Value} {rest : List Value} (h : All2 (G2 []) [s, t] rest) : ∃ v w, rest = [v, w] ∧ G2 [] s v ∧ G2 [] t w := by
  match rest, h with
  | [v, w], h => exact ⟨v, w, rfl, h.1, h.2.1⟩
theorem rI_np {n : Nat} {v : Value} (h : G2 [] (rI n) v) : isP v = false := by rw [h.isP]; rfl
/-! ### Means -/
def mnCell (t : Nat) (b : Bool) (rest : List Value) : Int × Bool :=
  match rest with
  | [v] => fmeanS b (rowD v) t
  | _ => (0, true)
def mnArr (t : Nat) (rest : List Value) : List Value :=
  match rest with
  | [v] => [v, .int .i64 (t : Int)]
  | r => r
def mnInv (args : List Value) : Option (Nat × List Value) :=
  match args with
  | [x, .int .i64 (.ofNat t)] => (match Nat.ble (Nat.succ t) 6 with
    | true => some (t, [x])
    | false => none)
  | _ => none
def mnF (base : Nat) : Fam := ⟨base, 6, 144, 92, [rI 78], mnArr, mnInv⟩
theorem mn_doc (t : Nat) (ht : t < 6) (b : Bool) (rest : List Value) (h : All2 (G2 []) [rI 78] rest) : CallsOk Tryz.prog 92 b (mnArr t rest) (.int .i64 (mnCell t b rest).1) (mnCell t b rest).2 := by
  obtain ⟨v, rfl, hv⟩ := one_rest h
  refine ⟨fun u hu => ?_, rfl, fun k w _ _ hw => ?_⟩
  · have hu : u = v ∨ u = .int .i64 (t : Int) := by simpa [mnArr] using hu
    rcases hu with rfl | rfl
    · exact rI_np hv
    · rfl
  · have e := rowD_is hv
    show Calls Tryz.prog 92 #[ptr k, v, .int .i64 (t : Int)] w _
    have := fmean_any k b (rowD v) t w hw ht
    rw [← e] at this
    exact this
def mnPr (t : Nat) (ht : t < 6) : Pr Tryz.prog := ⟨fun _ => 92, fun _ => there_go (by decide +kernel), [rI 78], uI, 9, by decide +kernel, mnArr t, fun h => absurd rfl h, ⟨fun _ b rest => (.int .i64 (mnCell t b rest).1, (mnCell t b rest).2), fun _ b rest h => ⟨⟨fun _ => mn_doc t ht b rest h, fun e => (by omega)⟩, fun e => by
    obtain ⟨v, rfl, _⟩ := one_rest h
    rw [e]
    exact mean_true (rowD v) t, ⟨_, rfl⟩, fun e => (by omega), fun e => (by omega), fun e => (by omega), fun e => (by omega)⟩, fun _ _ => ⟨rfl, fun _ => rfl⟩, ⟨fun h => by omega, fun h => by omega, fun h => by omega, fun h => by omega⟩, ⟨fun h => by omega, fun h => by omega, fun h => by omega⟩⟩⟩
/-! ### Means of products -/
def pdCell (t : Nat) (b : Bool) (rest : List Value) : Int × Bool :=
  match rest with
  | [v, u] => fproductsS b (rowD v) (t / 6) (rowD u) (t % 6)
  | _ => (0, true)
def pdArr (t : Nat) (rest : List Value) : List Value :=
  match rest with
  | [v, u] => [v, .int .i64 ((t / 6 : Nat) : Int), u, .int .i64 ((t % 6 : Nat) : Int)]
  | r => r
def pdInv (args : List Value) : Option (Nat × List Value) :=
  match args with
  | [x, .int .i64 (.ofNat i), y, .int .i64 (.ofNat j)] => (match Nat.ble (Nat.succ i) 6 && Nat.ble (Nat.succ j) 6 with
    | true => some (i * 6 + j, [x, y])
    | false => none)
  | _ => none
def pdF (base : Nat) : Fam := ⟨base, 36, 146, 94, [rI 78, rI 78], pdArr, pdInv⟩
theorem pd_doc (t : Nat) (ht : t < 36) (b : Bool) (rest : List Value) (h : All2 (G2 []) [rI 78, rI 78] rest) : CallsOk Tryz.prog 94 b (pdArr t rest) (.int .i64 (pdCell t b rest).1) (pdCell t b rest).2 := by
  obtain ⟨v, u, rfl, hv, hu⟩ := two_rest h
  refine ⟨fun z hz => ?_, rfl, fun k w _ _ hw => ?_⟩
  · have hz : z = v ∨ z = .int .i64 ((t / 6 : Nat) : Int) ∨ z = u ∨ z = .int .i64 ((t % 6 : Nat) : Int) := by simpa [pdArr] using hz
    rcases hz with rfl | rfl | rfl | rfl
    · exact rI_np hv
    · rfl
    · exact rI_np hu
    · rfl
  · have e := rowD_is hv
    have e2 := rowD_is hu
    have e3 : pdCell t b [v, u] = fproductsS b (rowD v) (t / 6) (rowD u) (t % 6) := rfl
    have e4 : pdArr t [v, u] = [v, .int .i64 ((t / 6 : Nat) : Int), u, .int .i64 ((t % 6 : Nat) : Int)] := rfl
    have hi : t / 6 < 6 := by omega
    have hj : t % 6 < 6 := by omega
    rw [e3, e4]
    generalize t / 6 = i at *
    generalize t % 6 = j at *
    have := fproducts_any k b (rowD v) i (rowD u) j w hw hi hj
    rw [← e, ← e2] at this
    exact this
theorem pd_st (t : Nat) (rest : List Value) : (pdCell t true rest).2 = true := by
  unfold pdCell
  split
  · exact prod_true _ _ _ _
  · rfl
def pdPr (t : Nat) (ht : t < 36) : Pr Tryz.prog := ⟨fun _ => 94, fun _ => there_go (by decide +kernel), [rI 78, rI 78], uI, 9, by decide +kernel, pdArr t, fun h => absurd rfl h, ⟨fun _ b rest => (.int .i64 (pdCell t b rest).1, (pdCell t b rest).2), fun _ b rest h => ⟨⟨fun _ => pd_doc t ht b rest h, fun e => (by omega)⟩, fun e => by
    rw [e]
    exact pd_st t rest, ⟨_, rfl⟩, fun e => (by omega), fun e => (by omega), fun e => (by omega), fun e => (by omega)⟩, fun _ _ => ⟨rfl, fun _ => rfl⟩, ⟨fun h => by omega, fun h => by omega, fun h => by omega, fun h => by omega⟩, ⟨fun h => by omega, fun h => by omega, fun h => by omega⟩⟩⟩
/-! ### Both -/
def famP : List (Pr Tryz.prog) := List.ofFn (n := 6) (fun t => mnPr t.1 t.2) ++ List.ofFn (n := 36) (fun t => pdPr t.1 t.2)
def famK : List Nat := List.replicate 42 9
theorem famK_is : famK = famP.map (·.kind) := by decide +kernel
theorem famP_mn (l : List (Pr Tryz.prog)) {t : Nat} (ht : t < 6) : (l ++ famP)[l.length + t]? = some (mnPr t ht) := by
  rw [List.getElem?_append_right (by omega), Nat.add_sub_cancel_left]
  unfold famP
  rw [List.getElem?_append_left (by rw [List.length_ofFn]; exact ht), List.getElem?_ofFn, dif_pos ht]
theorem famP_pd (l : List (Pr Tryz.prog)) {t : Nat} (ht : t < 36) : (l ++ famP)[l.length + 6 + t]? = some (pdPr t ht) := by
  rw [List.getElem?_append_right (by omega), show l.length + 6 + t - l.length = 6 + t by omega]
  unfold famP
  rw [List.getElem?_append_right (by rw [List.length_ofFn]; omega), List.length_ofFn, Nat.add_sub_cancel_left, List.getElem?_ofFn, dif_pos ht]
theorem mn_fam (l : List (Pr Tryz.prog)) : FamOk Tryz.prog (l ++ famP) (mnF l.length) mnCell where
  cgo := there_go (f := 144) (by decide +kernel)
  dgo := there_go (f := 92) (by decide +kernel)
  hi := show Tryz.prog.inits.idxOf? 92 = none from by decide +kernel
  nn := show [rI 78].all nn2 = true from by decide +kernel
  pr := fun t ht => ⟨mnPr t ht, famP_mn l ht, fun _ => rfl, rfl, rfl, rfl⟩
  inv := fun {targs t cargs} h => by
    have h : mnInv targs = some (t, cargs) := h
    unfold mnInv at h
    split at h
    · rename_i x k
      split at h
      · rename_i hk
        cases h
        refine ⟨Nat.le_of_ble_eq_true hk, fun {τ vargs} g => ?_⟩
        match vargs, g with
        | [v, u], g =>
        have e := g.2.1.int
        subst e
        exact ⟨[v], rfl, g.1, trivial⟩
      · cases h
    · cases h
  st := fun t rest => by
    unfold mnCell
    split
    · exact mean_true _ _
    · rfl
  doc := fun t ht b rest h => mn_doc t ht b rest h
  code := fun b rest h => by
    obtain ⟨v, rfl, hv⟩ := one_rest h
    refine ⟨(List.range 6).map (hmeanS b (rowD v)).1, (hmeanS b (rowD v)).2, ⟨fun u hu => ?_, rfl, fun k w _ _ hw => ?_⟩, by rw [List.length_map, List.length_range]; rfl, mean_good (rowD v) b, fun hg t ht => ?_⟩
    · have hu : u = v := by simpa using hu
      rw [hu]
      exact rI_np hv
    · rw [← row_ints]
      have := hmean_any k b (rowD v) w hw
      rw [← rowD_is hv] at this
      exact this
    · have ht : t < 6 := ht
      rw [List.getElem?_map, List.getElem?_range ht, Option.map_some, mean_val hg ht]
      rfl
theorem pd_fam (l : List (Pr Tryz.prog)) : FamOk Tryz.prog (l ++ famP) (pdF (l.length + 6)) pdCell where
  cgo := there_go (f := 146) (by decide +kernel)
  dgo := there_go (f := 94) (by decide +kernel)
  hi := show Tryz.prog.inits.idxOf? 94 = none from by decide +kernel
  nn := show [rI 78, rI 78].all nn2 = true from by decide +kernel
  pr := fun t ht => ⟨pdPr t ht, famP_pd l ht, fun _ => rfl, rfl, rfl, rfl⟩
  inv := fun {targs t cargs} h => by
    have h : pdInv targs = some (t, cargs) := h
    unfold pdInv at h
    split at h
    · rename_i x i y j _
      split at h
      · rename_i hk
        cases h
        rw [Bool.and_eq_true] at hk
        have hi := Nat.le_of_ble_eq_true hk.1
        have hj := Nat.le_of_ble_eq_true hk.2
        refine ⟨show i * 6 + j < 36 by omega, fun {τ vargs} g => ?_⟩
        match vargs, g with
        | [v, u, v2, u2], g =>
        have e := g.2.1.int
        have e2 := g.2.2.2.1.int
        subst e e2
        refine ⟨[v, v2], ?_, g.1, g.2.2.1, trivial⟩
        show _ = [v, .int .i64 (((i * 6 + j) / 6 : Nat) : Int), v2, .int .i64 (((i * 6 + j) % 6 : Nat) : Int)]
        rw [show (i * 6 + j) / 6 = i by omega, show (i * 6 + j) % 6 = j by omega]
        rfl
      · cases h
    · cases h
  st := pd_st
  doc := fun t ht b rest h => pd_doc t ht b rest h
  code := fun b rest h => by
    obtain ⟨v, u, rfl, hv, hu⟩ := two_rest h
    refine ⟨(List.range 36).map (hproductsS b (rowD v) (rowD u)).1, (hproductsS b (rowD v) (rowD u)).2, ⟨fun z hz => ?_, rfl, fun k w _ _ hw => ?_⟩, by rw [List.length_map, List.length_range]; rfl, (prod_good (rowD v) (rowD u) b).trans (and_congr_right fun _ => ⟨fun h t ht => h (t / 6) (by have : t < 36 := ht; omega) (t % 6) (by omega), fun h i hi j hj => ?_⟩), fun hg t ht => ?_⟩
    · have hz : z = v ∨ z = u := by simpa using hz
      rcases hz with rfl | rfl
      · exact rI_np hv
      · exact rI_np hu
    · rw [← row_ints]
      have := hproducts_any k b (rowD v) (rowD u) w hw
      rw [← rowD_is hv, ← rowD_is hu] at this
      exact this
    · have := h (i * 6 + j) (show i * 6 + j < 36 by omega)
      have e : pdCell (i * 6 + j) false [v, u] = fproductsS false (rowD v) ((i * 6 + j) / 6) (rowD u) ((i * 6 + j) % 6) := rfl
      rw [e, show (i * 6 + j) / 6 = i by omega, show (i * 6 + j) % 6 = j by omega] at this
      exact this
    · have ht : t < 36 := ht
      have := prod_val hg (i := t / 6) (j := t % 6) (by omega) (by omega)
      rw [show t / 6 * 6 + t % 6 = t by omega] at this
      rw [List.getElem?_map, List.getElem?_range ht, Option.map_some, this]
      rfl
/-- The tables with both in them, behind n others. -/
theorem front (l m : List (Pr Tryz.prog)) : ∀ j pr, l[j]? = some pr → (l ++ m)[0 + j]? = some pr := fun j pr h => by
  rw [Nat.zero_add, List.getElem?_append_left (List.getElem?_eq_some_iff.1 h).1]
  exact h
def tOf (n : Nat) (l : List (Pr Tryz.prog)) : RoT := fun d => famA (mnF n) :: famB (mnF n) :: famA (pdF (n + 6)) :: famB (pdF (n + 6)) :: rowFail (flN d) :: allO d 0 l
def tCf (n : Nat) (l : List (Pr Tryz.prog)) (ks : List Nat) : RcT := fun d => famC (mnF n) :: famD (mnF n) :: famC (pdF (n + 6)) :: famD (pdF (n + 6)) :: rowFail (flN !d) :: allC ks d 0 l
theorem tOf_ok {n : Nat} {l : List (Pr Tryz.prog)} (hn : l.length = n) (d : Bool) : TOk Tryz.prog (IO (l ++ famP) d) (tOf n l d) := fun a ha => by
  subst hn
  rcases List.mem_cons.1 ha with rfl | ha
  · exact famA_ok d (mn_fam l)
  rcases List.mem_cons.1 ha with rfl | ha
  · exact famB_ok d (mn_fam l)
  rcases List.mem_cons.1 ha with rfl | ha
  · exact famA_ok d (pd_fam l)
  rcases List.mem_cons.1 ha with rfl | ha
  · exact famB_ok d (pd_fam l)
  rcases List.mem_cons.1 ha with rfl | ha
  · exact rowFail_ok (fl_go d) (fun _ _ _ h => ⟨h.1, fun e => (by cases e), h.2.2⟩) (fl_ok d)
  · exact allO_ok 0 l (front l famP) a ha
theorem fam_ks {l : List (Pr Tryz.prog)} {kl : List Nat} (hk : kl = l.map (·.kind)) : kl ++ famK = (l ++ famP).map (·.kind) := by rw [List.map_append, ← hk, ← famK_is]
theorem tCf_ok {n : Nat} {l : List (Pr Tryz.prog)} {kl : List Nat} (hn : l.length = n) (hk : kl = l.map (·.kind)) (d : Bool) : TOk Tryz.prog (IC (l ++ famP) d) (tCf n l (kl ++ famK) d) := fun a ha => by
  have hks := fam_ks hk
  subst hn
  rcases List.mem_cons.1 ha with rfl | ha
  · exact famC_ok d (mn_fam l)
  rcases List.mem_cons.1 ha with rfl | ha
  · exact famD_ok d (mn_fam l)
  rcases List.mem_cons.1 ha with rfl | ha
  · exact famC_ok d (pd_fam l)
  rcases List.mem_cons.1 ha with rfl | ha
  · exact famD_ok d (pd_fam l)
  rcases List.mem_cons.1 ha with rfl | ha
  · exact rowFail_ok (fl_go !d) (fun _ _ _ h => h) (fl_ok !d)
  · exact allC_ok hks 0 l (front l famP) a ha
end Go.Proofs.YtoadcnhcfodkgaaGreatDoor.Nx
