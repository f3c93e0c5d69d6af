/-
  How near the rounded series are to their polynomials, for the seat YtoadcnhcfodkgaaGreatDoor. No Go text in sight.
-/
import Derived.Test.YtoadcnhcfodkgaaGreatDoorTNear
import Derived.Test.YtoadcnhcfodkgaaGreatDoorTPoly
namespace Go.Proofs.YtoadcnhcfodkgaaGreatDoor

/-- What the first numbers of a series are divided by, together; and the series itself, times that. -/
def lwD : List Int → Int
  | [] => 1
  | d :: ds => d * 1208925819614629174706176 * lwD ds
def lw : List Int → List Int
  | [] => [1]
  | d :: ds => lwD (d :: ds) :: pscale (-1) (lw ds)
theorem lwD_pos : ∀ (ds : List Int), (∀ d ∈ ds, 0 < d) → 0 < lwD ds
  | [], _ => by decide
  | d :: ds, h => by
    have h1 := lwD_pos ds (fun e he => h e (List.mem_cons_of_mem _ he))
    have h2 : 0 < d := h d (List.mem_cons_self ..)
    unfold lwD
    exact Int.mul_pos (Int.mul_pos h2 (by decide)) h1
theorem lw_step (d : Int) (ds : List Int) (y : Int) : evp (lw (d :: ds)) y = d * 1208925819614629174706176 * lwD ds - y * evp (lw ds) y := by
  rw [show lw (d :: ds) = lwD (d :: ds) :: pscale (-1) (lw ds) from rfl]
  simp only [evp, lwD]
  rw [evp_scale]
  grind
/-- One round: what is off grows by little. -/
theorem ser_step (t u v d D W : Int) (ht : 0 ≤ t ∧ t ≤ 1727108826179) (hu0 : 0 ≤ u) (hu1 : u * 1099511627776 ≤ t * t + 549755813888) (hu2 : t * t ≤ u * 1099511627776 + 549755813888)
    (hv : 0 ≤ v ∧ v ≤ 1099511627776) (hd : 2 ≤ d ∧ d ≤ 1000) (hD : 0 < D) (he : -D ≤ v * D - 1099511627776 * W ∧ v * D - 1099511627776 * W ≤ D) :
    ∃ v1, stepS u d (v, false) = (v1, false) ∧ v1 ≤ 1099511627776 ∧ (6 ≤ d → 0 ≤ v1) ∧ -1099511627776 ≤ v1 ∧
      -((7 + d) * (1208925819614629174706176 * D)) ≤ 2 * (v1 * (d * 1208925819614629174706176 * D) - 1099511627776 * (d * 1208925819614629174706176 * D - t * t * W)) ∧
      2 * (v1 * (d * 1208925819614629174706176 * D) - 1099511627776 * (d * 1208925819614629174706176 * D - t * t * W)) ≤ (7 + d) * (1208925819614629174706176 * D) := by
  have tt0 : 0 ≤ t * t := Int.mul_nonneg ht.1 ht.1
  have tt1 : t * t ≤ 1727108826179 * 1727108826179 := Int.mul_le_mul ht.2 ht.2 ht.1 (by decide)
  have u1 : u ≤ 2712936701216 := by omega
  obtain ⟨m, em, m1, m2, m3⟩ := mulS_small u v (by omega) (by omega)
  have uv0 : 0 ≤ u * v := Int.mul_nonneg hu0 hv.1
  have uv1 : u * v ≤ 2712936701216 * 1099511627776 := Int.mul_le_mul u1 hv.2 hv.1 (by decide)
  have m0 := m3 uv0
  have mt : m ≤ 2712936701216 := by omega
  obtain ⟨p, ep, p1, p2, p3⟩ := partS_one m d (numB_of (by omega)) (by omega) (by rw [sz_nonneg m0]; omega)
  have p0 := p3 m0
  have pb : p ≤ 1356468350609 := by
    by_cases c : p ≤ 1356468350609
    · exact c
    · have := Int.mul_le_mul_of_nonneg_left hd.1 p0
      have h2 : (p * 2 - 1) * d ≥ (p * 2 - 1) * 2 := Int.mul_le_mul_of_nonneg_left hd.1 (by omega)
      have h3 : (p * 2 - 1) * d = 2 * (p * d) - d := by grind
      omega
  have pb6 : 6 ≤ d → p ≤ 1099511627776 := fun h6 => by
    by_cases c : p ≤ 1099511627776
    · exact c
    · have h2 : (p * 2 - 1) * d ≥ (p * 2 - 1) * 6 := Int.mul_le_mul_of_nonneg_left h6 (by omega)
      have h3 : (p * 2 - 1) * d = 2 * (p * d) - d := by grind
      omega
  refine ⟨1099511627776 - p, ?_, by omega, fun h6 => by have := pb6 h6; omega, by omega, ?_⟩
  · unfold stepS
    show subS (partS (mulS false u v).2 (mulS false u v).1 1 d).2 1099511627776 (partS (mulS false u v).2 (mulS false u v).1 1 d).1 = _
    rw [em]
    show subS (partS false m 1 d).2 1099511627776 (partS false m 1 d).1 = _
    rw [ep]
    exact subS_good _ _ rfl (numB_of (by omega)) (numB_of (by omega))
  · clear em ep pb pb6 m3 p3
    -- the four parts of what is off
    obtain ⟨e1, he1⟩ : ∃ e1, e1 = p * d - m := ⟨_, rfl⟩
    obtain ⟨e2, he2⟩ : ∃ e2, e2 = m * 1099511627776 - u * v := ⟨_, rfl⟩
    obtain ⟨e3, he3⟩ : ∃ e3, e3 = u * 1099511627776 - t * t := ⟨_, rfl⟩
    obtain ⟨e4, he4⟩ : ∃ e4, e4 = v * D - 1099511627776 * W := ⟨_, rfl⟩
    have key : (1099511627776 - p) * (d * 1208925819614629174706176 * D) - 1099511627776 * (d * 1208925819614629174706176 * D - t * t * W) = -(t * t * e4) - e3 * v * D - e2 * (1099511627776 * D) - e1 * (1208925819614629174706176 * D) := by
      rw [he1, he2, he3, he4]
      grind
    rw [key]
    have q4 := mulbd (x := t * t) (y := e4) (a := 1727108826179 * 1727108826179) (b := D) (by omega) (by omega)
    have q3a := mulbd (x := e3) (y := v) (a := 549755813888) (b := 1099511627776) (by omega) (by omega)
    have q3 := mulbd (x := e3 * v) (y := D) (a := 549755813888 * 1099511627776) (b := D) q3a (by omega)
    have q2 := mulbd (x := e2) (y := 1099511627776 * D) (a := 549755813888) (b := 1099511627776 * D) (by omega) (by omega)
    have q1 := mulbd (x := 2 * e1) (y := 1208925819614629174706176 * D) (a := d) (b := 1208925819614629174706176 * D) (by omega) (by omega)
    have r1 : 2 * e1 * (1208925819614629174706176 * D) = 2 * (e1 * (1208925819614629174706176 * D)) := by grind
    rw [r1] at q1
    have r2 : (7 + d) * (1208925819614629174706176 * D) = 7 * (1208925819614629174706176 * D) + d * (1208925819614629174706176 * D) := by grind
    rw [r2]
    generalize t * t * e4 = z4 at *
    generalize e3 * v * D = z3 at *
    generalize e2 * (1099511627776 * D) = z2 at *
    generalize e1 * (1208925819614629174706176 * D) = z1 at *
    generalize d * (1208925819614629174706176 * D) = z0 at *
    omega

theorem serS_last (dd : Int → Int) (u : Int) : ∀ (n : Nat) (p : Int × Bool), serS dd u (n + 1) p = stepS u (dd 1) (serS (fun m => dd (m + 1)) u n p)
  | 0, p => rfl
  | n + 1, p => by
    rw [show serS dd u (n + 1 + 1) p = serS dd u (n + 1) (stepS u (dd (((n + 1 : Nat) : Int) + 1)) p) from rfl, serS_last dd u n]
    rfl
def dsOf (dd : Int → Int) : Nat → List Int → List Int
  | 0, ds => ds
  | n + 1, ds => dsOf dd n (dd (n + 1) :: ds)
theorem ser_inv (dd : Int → Int) (t u : Int) (ht : 0 ≤ t ∧ t ≤ 1727108826179) (hu0 : 0 ≤ u) (hu1 : u * 1099511627776 ≤ t * t + 549755813888) (hu2 : t * t ≤ u * 1099511627776 + 549755813888) :
    ∀ (n : Nat) (v : Int) (ds : List Int), (∀ m : Int, 1 ≤ m → m ≤ n → 12 ≤ dd m ∧ dd m ≤ 1000) → (∀ d ∈ ds, 0 < d) → (0 ≤ v ∧ v ≤ 1099511627776) →
      (-(lwD ds) ≤ v * lwD ds - 1099511627776 * evp (lw ds) (t * t) ∧ v * lwD ds - 1099511627776 * evp (lw ds) (t * t) ≤ lwD ds) →
      ∃ v', serS dd u n (v, false) = (v', false) ∧ 0 ≤ v' ∧ v' ≤ 1099511627776 ∧ (∀ d ∈ dsOf dd n ds, 0 < d) ∧
        -(lwD (dsOf dd n ds)) ≤ v' * lwD (dsOf dd n ds) - 1099511627776 * evp (lw (dsOf dd n ds)) (t * t) ∧ v' * lwD (dsOf dd n ds) - 1099511627776 * evp (lw (dsOf dd n ds)) (t * t) ≤ lwD (dsOf dd n ds)
  | 0, v, ds, _, hp, hv, he => ⟨v, rfl, hv.1, hv.2, hp, he.1, he.2⟩
  | n + 1, v, ds, hdd, hp, hv, he => by
    have hd := hdd ((n : Int) + 1) (by omega) (by omega)
    obtain ⟨v1, e1, b1, b2, _, c1, c2⟩ := ser_step t u v (dd (n + 1)) (lwD ds) (evp (lw ds) (t * t)) ht hu0 hu1 hu2 hv (by omega) (lwD_pos ds hp) he
    have hp' : ∀ d ∈ dd (n + 1) :: ds, 0 < d := by
      intro d h
      rcases List.mem_cons.1 h with rfl | h
      · omega
      · exact hp d h
    have ew := lw_step (dd (n + 1)) ds (t * t)
    have eD : lwD (dd (n + 1) :: ds) = dd (n + 1) * 1208925819614629174706176 * lwD ds := rfl
    have k : (7 + dd (n + 1)) * (1208925819614629174706176 * lwD ds) ≤ 2 * (dd (n + 1) * 1208925819614629174706176 * lwD ds) := by
      have h0 := Int.mul_pos (by decide : (0 : Int) < 1208925819614629174706176) (lwD_pos ds hp)
      have h1 := Int.mul_le_mul_of_nonneg_right (by omega : 7 + dd (n + 1) ≤ 2 * dd (n + 1)) (Int.le_of_lt h0)
      have h2 : 2 * dd (n + 1) * (1208925819614629174706176 * lwD ds) = 2 * (dd (n + 1) * 1208925819614629174706176 * lwD ds) := by grind
      omega
    have := ser_inv dd t u ht hu0 hu1 hu2 n v1 (dd (n + 1) :: ds) (fun m h1 h2 => hdd m h1 (by omega)) hp' ⟨b2 (by omega), b1⟩ (by rw [ew, eD]; omega)
    rw [show serS dd u (n + 1) (v, false) = serS dd u n (stepS u (dd (n + 1)) (v, false)) from rfl, e1]
    exact this
end Go.Proofs.YtoadcnhcfodkgaaGreatDoor
