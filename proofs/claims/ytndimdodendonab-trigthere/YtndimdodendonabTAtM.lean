/-
  The arc's angle and its tangent, of rounded steps, for the seat Ytndimdodendonab. No Go text in sight.
-/
import Derived.Test.YtndimdodendonabTAtN
namespace Go.Proofs.Ytndimdodendonab

theorem aW_low_num : 75557863726464079233025 * evp (absl (aL 13).tail) 75557863726464079233025 ≤ aQ / 2 := by decide +kernel
theorem aW_head : aL 13 = aQ :: (aL 13).tail := by decide +kernel
theorem aW_low (t : Int) (ht : 0 ≤ t ∧ t ≤ 274877906945) : aQ ≤ 2 * aW t := by
  have tt0 : 0 ≤ t * t := Int.mul_nonneg ht.1 ht.1
  have tt1 : t * t ≤ 274877906945 * 274877906945 := Int.mul_le_mul ht.2 ht.2 ht.1 (by decide)
  have e : aW t = aQ + t * t * evp (aL 13).tail (t * t) := by
    unfold aW
    rw [aW_head]
    rfl
  have a := evp_abs (aL 13).tail (t * t) 75557863726464079233025 (by omega)
  have m := mulbd (x := t * t) (y := evp (aL 13).tail (t * t)) (a := 75557863726464079233025) (b := evp (absl (aL 13).tail) 75557863726464079233025) (by omega) a
  have n := aW_low_num
  rw [e]
  omega
theorem le_of_pos_mul {K A B : Int} (hK : 0 < K) (h : K * A ≤ K * B) : A ≤ B := Int.le_of_mul_le_mul_left h hK
theorem five_abs (q k kq t x1 x2 y1 y2 s9 c9 B1 B2 : Int) (hq : 0 < q) (ke : kq = q * k) (h1 : x1 + y1 = q * s9) (h2 : x2 + y2 = q * c9) (g : -kq ≤ 1099511627776 * x1 - t * x2 ∧ 1099511627776 * x1 - t * x2 ≤ kq)
    (b1 : -B1 ≤ y1 ∧ y1 ≤ B1) (n1 : 1099511627776 * B1 ≤ 3 * kq) (b3 : -(274877906945 * B2) ≤ t * y2 ∧ t * y2 ≤ 274877906945 * B2) (n2 : 274877906945 * B2 ≤ kq) :
    -(5 * k) ≤ 1099511627776 * s9 - t * c9 ∧ 1099511627776 * s9 - t * c9 ≤ 5 * k := by
  have kx : q * (1099511627776 * s9 - t * c9) = (1099511627776 * x1 - t * x2) + 1099511627776 * y1 - t * y2 := by
    have e1 : q * (1099511627776 * s9 - t * c9) = 1099511627776 * (q * s9) - t * (q * c9) := by grind
    rw [e1, ← h1, ← h2]
    grind
  have k5 : q * (5 * k) = 5 * kq := by rw [ke]; grind
  constructor
  · refine le_of_pos_mul hq ?_
    rw [kx, Int.mul_neg, k5]
    omega
  · refine le_of_pos_mul hq ?_
    rw [kx, k5]
    omega
theorem seven_abs (K k P C s9 c9 t F1 F2 : Int) (kp : 0 < k) (kkp : 0 < K) (five : -(5 * k) ≤ 1099511627776 * s9 - t * c9 ∧ 1099511627776 * s9 - t * c9 ≤ 5 * k)
    (f1 : -F1 ≤ K * s9 + -k * P ∧ K * s9 + -k * P ≤ F1) (m1 : 1099511627776 * F1 ≤ K * k) (f3 : -(274877906945 * F2) ≤ t * (K * c9 + -k * C) ∧ t * (K * c9 + -k * C) ≤ 274877906945 * F2) (m2 : 274877906945 * F2 ≤ K * k) :
    -(7 * K) ≤ 1099511627776 * P - t * C ∧ 1099511627776 * P - t * C ≤ 7 * K := by
  have five2 := mulbd (x := K) (y := 1099511627776 * s9 - t * c9) (a := K) (b := 5 * k) (by omega) five
  have key : k * (1099511627776 * P - t * C) = K * (1099511627776 * s9 - t * c9) - 1099511627776 * (K * s9 + -k * P) + t * (K * c9 + -k * C) := by grind
  have k7 : k * (7 * K) = 7 * (K * k) := by grind
  have k5 : K * (5 * k) = 5 * (K * k) := by grind
  rw [k5] at five2
  constructor
  · refine le_of_pos_mul kp ?_
    rw [key, Int.mul_neg, k7]
    omega
  · refine le_of_pos_mul kp ?_
    rw [key, k7]
    omega
/-- Where the angle lies, in units of 1 / aQ. -/
theorem arc_place (t u v z : Int) (ht : 0 ≤ t ∧ t ≤ 274877906945) (hu : 0 ≤ u ∧ u ≤ 137438953472) (hu1 : u * 1099511627776 ≤ t * t + 549755813888) (hu2 : t * t ≤ u * 1099511627776 + 549755813888)
    (ev : arcSer u 13 (0, false) = (v, false)) (ez : mulS false t v = (z, false)) (z1 : z * 1099511627776 ≤ t * v + 549755813888) (z2 : t * v ≤ z * 1099511627776 + 549755813888) (hv : -2199023255552 ≤ v ∧ v ≤ 2199023255552) :
    0 ≤ z ∧ z ≤ 290000000000 ∧ (-(2 * aQ) ≤ z * aQ - t * aW t ∧ z * aQ - t * aW t ≤ 2 * aQ) ∧ (-(285000000000 * aQ) ≤ t * aW t ∧ t * aW t ≤ 285000000000 * aQ) := by
  have s := arc_ser t u v hu ht hu1 hu2 ev
  have qp := aQ_pos
  have wl := aW_low t ht
  have zt := evp_abs lZ t 274877906945 (by omega)
  have zs := lZ_small
  rw [lZ_eq] at zt
  generalize evp (absl lZ) 274877906945 = Zb at *
  generalize aW t = W at *
  generalize aQ = Q at *
  have v0 : 0 ≤ v := by
    have h : 0 < v * Q := by omega
    exact Int.le_of_lt (Int.pos_of_mul_pos_left h qp)
  have z0 : 0 ≤ z := by
    obtain ⟨m, em, _, _, m3⟩ := mulS_small t v (by omega) (by omega)
    rw [ez] at em
    obtain rfl : z = m := congrArg Prod.fst em
    exact m3 (Int.mul_nonneg ht.1 v0)
  have db : -(2 * Q) ≤ z * Q - t * W ∧ z * Q - t * W ≤ 2 * Q := by
    obtain ⟨e1, he1⟩ : ∃ e1, e1 = z * 1099511627776 - t * v := ⟨_, rfl⟩
    obtain ⟨e2, he2⟩ : ∃ e2, e2 = v * Q - 1099511627776 * W := ⟨_, rfl⟩
    have key : 1099511627776 * (z * Q - t * W) = e1 * Q + t * e2 := by rw [he1, he2]; grind
    have q1 := mulbd (x := e1) (y := Q) (a := 549755813888) (b := Q) (by omega) (by omega)
    have q2 := mulbd (x := t) (y := e2) (a := 274877906945) (b := 3 * Q) (by omega) (by omega)
    omega
  have zb : z ≤ 290000000000 := by
    by_cases c : z ≤ 290000000000
    · exact c
    · have := Int.mul_le_mul_of_nonneg_right (by omega : 290000000001 ≤ z) (by omega : 0 ≤ Q)
      omega
  exact ⟨z0, zb, db, by omega⟩
theorem short_tan (t z : Int) (ht : 0 ≤ t ∧ t ≤ 274877906945) (db : -(2 * aQ) ≤ z * aQ - t * aW t ∧ z * aQ - t * aW t ≤ 2 * aQ) (zb : -(285000000000 * aQ) ≤ t * aW t ∧ t * aW t ≤ 285000000000 * aQ) :
    -(5 * k9) ≤ 1099511627776 * evp (l9s 1099511627776) z - t * evp (l9c 1099511627776) z ∧ 1099511627776 * evp (l9s 1099511627776) z - t * evp (l9c 1099511627776) z ≤ 5 * k9 := by
  have g := evp_abs lG t 274877906945 (by omega)
  have gs := lG_small
  rw [lG_eq, lZ_eq] at g
  have l1 := lips (l9s oq) (t * aW t) (z * aQ - t * aW t)
  have l2 := lips (l9c oq) (t * aW t) (z * aQ - t * aW t)
  rw [show t * aW t + (z * aQ - t * aW t) = z * aQ by omega] at l1 l2
  have b1 := mulbd db (ev2_abs (comp (l9s oq)).tail (t * aW t) (z * aQ - t * aW t) (285000000000 * aQ) (2 * aQ) zb db)
  have b2 := mulbd db (ev2_abs (comp (l9c oq)).tail (t * aW t) (z * aQ - t * aW t) (285000000000 * aQ) (2 * aQ) zb db)
  have b3 := mulbd (x := t) (a := 274877906945) (by omega) b2
  have h1 := hom_s 1099511627776 aQ z
  have h2 := hom_c 1099511627776 aQ z
  exact five_abs (aQ ^ 9) k9 k9q t _ _ _ _ _ _ _ _ (Int.pow_pos aQ_pos) k9q_eq (l1.symm.trans h1) (l2.symm.trans h2) ⟨by omega, by omega⟩ b1 lips_s b3 lips_c
/-- The angle z of the tangent t: its sine is t times its cosine, but for 7 last bits. -/
theorem arc_tan (t u v z : Int) (ht : 0 ≤ t ∧ t ≤ 274877906945) (hu : 0 ≤ u ∧ u ≤ 137438953472) (hu1 : u * 1099511627776 ≤ t * t + 549755813888) (hu2 : t * t ≤ u * 1099511627776 + 549755813888)
    (ev : arcSer u 13 (0, false) = (v, false)) (ez : mulS false t v = (z, false)) (z1 : z * 1099511627776 ≤ t * v + 549755813888) (z2 : t * v ≤ z * 1099511627776 + 549755813888) (hv : -2199023255552 ≤ v ∧ v ≤ 2199023255552) :
    0 ≤ z ∧ z ≤ 290000000000 ∧ -(7 * kk) ≤ 1099511627776 * pS z - t * pC z ∧ 1099511627776 * pS z - t * pC z ≤ 7 * kk := by
  obtain ⟨z0, zb, db, zt⟩ := arc_place t u v z ht hu hu1 hu2 ev ez z1 z2 hv
  refine ⟨z0, zb, ?_⟩
  have five := short_tan t z ht db zt
  have f1 := evp_abs (padd (pscale kk (l9s 1099511627776)) (pscale (-k9) lS)) z 290000000000 (by omega)
  have f2 := evp_abs (padd (pscale kk (l9c 1099511627776)) (pscale (-k9) lC)) z 290000000000 (by omega)
  rw [evp_padd, evp_scale, evp_scale] at f1 f2
  have f3 := mulbd (x := t) (a := 274877906945) (by omega) f2
  exact seven_abs kk k9 (pS z) (pC z) _ _ t _ _ k9_pos kk_pos five f1 far_s f3 far_c
end Go.Proofs.Ytndimdodendonab
