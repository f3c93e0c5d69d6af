/-
  The code's units: no part of one is above 1, for the seat YtoadcnhcfodkgaaGreatDoor.
-/
import Derived.Test.YtoadcnhcfodkgaaGreatDoorNxL
import Derived.Test.YtoadcnhcfodkgaaGreatDoorSxI
namespace Go.Proofs.YtoadcnhcfodkgaaGreatDoor.Nx
open Go.RowKit Go.Proofs.YtoadcnhcfodkgaaGreatDoor

def cDiv' : Ct Tryz.prog := flowCt Tryz.prog 211 (then' cI (lone' cI)) (fun bad x => divS bad x.1 x.2) cI (go_of Tryz.func211 (by kernel_rfl) (by kernel_rfl)) (fun b bad x w _ _ hw => Div_any b bad x.1 x.2 w hw)
def cNorm' : Ct Tryz.prog := flowCt Tryz.prog 135 (then' cI (then' cI (lone' cI))) (fun bad x => normS bad x.1 x.2.1 x.2.2) cI (go_of Tryz.func135 (by kernel_rfl) (by kernel_rfl)) (fun b bad x w _ _ hw => Norm_any b bad x.1 x.2.1 x.2.2 w hw)
def cFail' : Ct Tryz.prog := flowCt Tryz.prog 121 none' (fun _ _ => ((), true)) cU (go_of Tryz.func121 (by kernel_rfl) (by kernel_rfl)) (fun b bad _ w _ _ hw => Fail_any b bad w hw)
def vNrmS (bad : Bool) (p : Int × Int × Int) : Int × Bool := normS bad p.1 p.2.1 p.2.2
theorem vNrm_ok : FlowOk Tryz.prog 46 (lone' cV3) vNrmS cI := flow_sx (tbl := [cNorm']) (dirty := fun _ => []) (n := 4) xmixA Tryz.func46 rfl (fun bad x Post => by kernel_rfl)
def cvNrm : Ct Tryz.prog := flowCt Tryz.prog 46 (lone' cV3) vNrmS cI (go_of Tryz.func46 (by kernel_rfl) (by kernel_rfl)) vNrm_ok
def vUniS (bad : Bool) (p : Int × Int × Int) : (Int × Int × Int) × Bool :=
  if (normS bad p.1 p.2.1 p.2.2).1 < 1048576 then ((0, 0, 0), true) else
  (((divS (normS bad p.1 p.2.1 p.2.2).2 p.1 (normS bad p.1 p.2.1 p.2.2).1).1, (divS (divS (normS bad p.1 p.2.1 p.2.2).2 p.1 (normS bad p.1 p.2.1 p.2.2).1).2 p.2.1 (normS bad p.1 p.2.1 p.2.2).1).1, (divS (divS (divS (normS bad p.1 p.2.1 p.2.2).2 p.1 (normS bad p.1 p.2.1 p.2.2).1).2 p.2.1 (normS bad p.1 p.2.1 p.2.2).1).2 p.2.2 (normS bad p.1 p.2.1 p.2.2).1).1), (divS (divS (divS (normS bad p.1 p.2.1 p.2.2).2 p.1 (normS bad p.1 p.2.1 p.2.2).1).2 p.2.1 (normS bad p.1 p.2.1 p.2.2).1).2 p.2.2 (normS bad p.1 p.2.1 p.2.2).1).2)
theorem vUni_ok : FlowOk Tryz.prog 240 (lone' cV3) vUniS cV3 := flow_sx (tbl := [cDiv', cFail', cvNrm]) (dirty := fun _ => []) (n := 4) xmixA Tryz.func240 rfl (fun bad x Post => by
    refine Eq.trans (b := ?m) ?x (Eq.symm ?y)
    case y => unfold vUniS; simp only [← vif_lt (K := PK cV3 Post)]; exact rfl
    case x => kernel_rfl)
theorem norm_ge {a b c n : Int} (h : normS false a b c = (n, false)) : a.natAbs ≤ n.natAbs ∧ b.natAbs ≤ n.natAbs ∧ c.natAbs ≤ n.natAbs := by
  unfold normS at h
  split at h
  · rename_i k
    obtain ⟨_, c1, c2, c3⟩ := tk_three k
    have sq : ∀ x : Int, numB x = true → 0 ≤ x * x ∧ x * x ≤ 21267647932558653966460912964485513216 := fun x hx => by
      have b := numB_bd hx
      refine ⟨by by_cases h0 : 0 ≤ x; exact Int.mul_nonneg h0 h0; rw [← Int.neg_mul_neg]; exact Int.mul_nonneg (by omega) (by omega), ?_⟩
      by_cases h0 : 0 ≤ x
      · exact sq_mono h0 b.2
      · have : (-x) * (-x) ≤ _ := sq_mono (show 0 ≤ -x by omega) (show -x ≤ 4611686018427387904 by omega)
        rw [Int.neg_mul_neg] at this
        exact this
    have q1 := sq a c1
    have q2 := sq b c2
    have q3 := sq c c3
    obtain ⟨i1, i2, i3⟩ := isq_spec (a * a + b * b + c * c) (by omega) (by omega)
    have hn : n = isq (a * a + b * b + c * c) := by
      have e1 := congrArg Prod.snd h
      have e2 := congrArg Prod.fst h
      unfold out sgnd at e1 e2
      have e1 : ¬ 4611686018427387904 < isq (a * a + b * b + c * c) := by simpa using e1
      dsimp only at e2
      rw [if_pos (by omega)] at e2
      simpa using e2.symm
    rw [hn]
    generalize isq (a * a + b * b + c * c) = s at *
    have lt : ∀ x : Int, 0 ≤ x * x → x * x ≤ a * a + b * b + c * c → x.natAbs ≤ s.natAbs := fun x _ hx => by
      rcases Nat.lt_or_ge s.natAbs x.natAbs with k | k
      · exfalso
        have k2 : s + 1 ≤ (x.natAbs : Int) := by omega
        have k3 : (s + 1) * (s + 1) ≤ (x.natAbs : Int) * x.natAbs := Int.mul_le_mul k2 k2 (by omega) (by omega)
        have k4 : (x.natAbs : Int) * x.natAbs = x * x := Int.natAbs_mul_self
        omega
      · exact k
    exact ⟨lt a (by omega) (by omega), lt b (by omega) (by omega), lt c (by omega) (by omega)⟩
  · cases h
theorem div_low {a n r : Int} (h : divS false a n = (r, false)) (hn : a.natAbs ≤ n.natAbs) (h0 : 0 < n.natAbs) : Nat.ble r.natAbs 1099511627776 = true := by
  have h2 : (partS false a 1099511627776 n).2 = false := congrArg Prod.snd h
  have := partS_near a 1099511627776 n h2
  have e : (partS false a 1099511627776 n).1 = r := congrArg Prod.fst h
  rw [e] at this
  have e1 : Int.natAbs 1099511627776 = 1099511627776 := rfl
  rw [e1] at this
  refine Nat.ble_eq_true_of_le ?_
  rcases Nat.lt_or_ge 1099511627776 r.natAbs with k | k
  · exfalso
    have k2 : 1099511627777 * n.natAbs ≤ r.natAbs * n.natAbs := Nat.mul_le_mul_right _ k
    have k3 : a.natAbs * 1099511627776 ≤ n.natAbs * 1099511627776 := Nat.mul_le_mul_right _ hn
    omega
  · exact k
theorem uni_low {p u : Int × Int × Int} (h : vUniS false p = (u, false)) : lowV (cV3.enc u) = true := by
  unfold vUniS at h
  split at h
  · cases h
  · rename_i hs
    cases hN : normS false p.1 p.2.1 p.2.2 with
    | mk n b =>
    rw [hN] at h hs
    dsimp only at h hs
    cases b with
    | true =>
      have t : ∀ a b : Int, divS true a b = (0, true) := fun a b => by
        unfold divS
        rw [partS_no (show tk true _ = false from rfl)]
      rw [t, t, t] at h
      cases h
    | false =>
      obtain ⟨g1, g2, g3⟩ := norm_ge hN
      have t : ∀ a b : Int, divS true a b = (0, true) := fun a b => by
        unfold divS
        rw [partS_no (show tk true _ = false from rfl)]
      cases h1 : divS false p.1 n with
      | mk r1 b1 =>
      rw [h1] at h
      dsimp only at h
      cases b1 with
      | true => rw [t, t] at h; cases h
      | false =>
      cases h2 : divS false p.2.1 n with
      | mk r2 b2 =>
      rw [h2] at h
      dsimp only at h
      cases b2 with
      | true => rw [t] at h; cases h
      | false =>
      cases h3 : divS false p.2.2 n with
      | mk r3 b3 =>
      rw [h3] at h
      cases h
      have k1 := div_low h1 g1 (by omega)
      have k2 := div_low h2 g2 (by omega)
      have k3 := div_low h3 g3 (by omega)
      show (lowC (.int .i64 r1) && (lowC (.int .i64 r2) && (lowC (.int .i64 r3) && true))) = true
      have l : ∀ r : Int, Nat.ble r.natAbs 1099511627776 = true → lowC (.int .i64 r) = true := fun r h => h
      rw [l _ k1, l _ k2, l _ k3]
      rfl
theorem low_of {P : Program} {fn : Bool → Nat} {sa : List Value} {sr : Value} (h : ∃ g, PrOk P fn sa sr 0 g) (hi : P.inits.idxOf? (fn false) = none) (hl : ∀ rest, All2 (G2 []) sa rest → ∃ v b, CallsOk P (fn false) false rest v b ∧ (b = false → lowV v = true)) : ∃ g, PrOk P fn sa sr 7 g := by
  obtain ⟨g, h1, h2, _⟩ := h
  refine ⟨g, fun d b rest hc => ?_, h2, ⟨fun e => (by omega), fun e => (by omega), fun e => (by omega), fun e => (by omega)⟩, ⟨fun e => (by omega), fun e => (by omega), fun e => (by omega)⟩⟩
  obtain ⟨k1, k2, k3, _⟩ := h1 d b rest hc
  refine ⟨⟨fun _ => k1.1 (by omega), fun e => (by omega)⟩, k2, k3, fun e => (by omega), fun e => (by omega), fun e => (by omega), fun _ hg => ?_⟩
  cases b with
  | true => rw [k2 rfl] at hg; cases hg
  | false =>
    obtain ⟨v, b, c1, c2⟩ := hl rest hc
    obtain ⟨e1, e2⟩ := ((h1 false false rest hc).1.1 (by omega)).det hi c1
    obtain ⟨o1, o2⟩ := h2 rest hc
    cases d with
    | false =>
      rw [e1]
      exact c2 (e2.symm.trans hg)
    | true =>
      have hg0 := o1.trans hg
      rw [← o2 hg0, e1]
      exact c2 (e2.symm.trans hg0)
theorem three_of {v : Value} (h : G2 [] (rI 3) v) : ∃ p : Int × Int × Int, v = cV3.enc p := by
  obtain ⟨l, rfl, hl⟩ := h
  match l, hl with
  | [_, _, _], ⟨⟨a, rfl⟩, ⟨b, rfl⟩, ⟨c, rfl⟩, _⟩ => exact ⟨(a, b, c), rfl⟩
theorem vUnit_low (rest : List Value) (h : All2 (G2 []) [rI 3] rest) : ∃ v b, CallsOk Tryz.prog 240 false rest v b ∧ (b = false → lowV v = true) := by
  match rest, h with
  | [v], h =>
  obtain ⟨p, rfl⟩ := three_of h.1
  refine ⟨cV3.enc (vUniS false p).1, (vUniS false p).2, ⟨fun u hu => by rw [List.mem_singleton.1 hu]; rfl, rfl, fun k w hg hk hw => vUni_ok k false p w hg hk hw⟩, fun e => uni_low (p := p) (u := (vUniS false p).1) (Prod.ext rfl e)⟩
end Go.Proofs.YtoadcnhcfodkgaaGreatDoor.Nx
