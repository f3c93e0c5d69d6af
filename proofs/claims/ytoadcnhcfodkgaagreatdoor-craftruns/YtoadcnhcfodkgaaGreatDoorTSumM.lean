/-
  The squares of a sine and a cosine together, and the sine and the cosine of a sum, as they are worked, for the seat YtoadcnhcfodkgaaGreatDoor. No Go text in sight.
-/
import Derived.Test.YtoadcnhcfodkgaaGreatDoorTTrig
namespace Go.Proofs.YtoadcnhcfodkgaaGreatDoor

/-- A number S that is within 3 last bits of P / K. -/
structure Nr (K S P : Int) : Prop where
  lo : -(3 * K) ≤ S * K - 1099511627776 * P
  hi : S * K - 1099511627776 * P ≤ 3 * K
  bl : -2199023255552 ≤ S
  bh : S ≤ 2199023255552
theorem Nr.neg {K S P : Int} (h : Nr K S P) : Nr K (-S) (-P) := by
  have h1 := h.lo
  have h2 := h.hi
  have h3 := h.bl
  have h4 := h.bh
  constructor
  · rw [Int.neg_mul]; omega
  · rw [Int.neg_mul]; omega
  · omega
  · omega
theorem prod_near {K S C P Q : Int} (hK : 0 < K) (hS : Nr K S P) (hC : Nr K C Q) :
    -(13194139533321 * (K * K)) ≤ 1208925819614629174706176 * (P * Q) - K * K * (S * C) ∧ 1208925819614629174706176 * (P * Q) - K * K * (S * C) ≤ 13194139533321 * (K * K) := by
  obtain ⟨a1, a2, a3, a4⟩ := hS
  obtain ⟨b1, b2, b3, b4⟩ := hC
  obtain ⟨e1, h1⟩ : ∃ e1, e1 = S * K - 1099511627776 * P := ⟨_, rfl⟩
  obtain ⟨e2, h2⟩ : ∃ e2, e2 = C * K - 1099511627776 * Q := ⟨_, rfl⟩
  have key : 1208925819614629174706176 * (P * Q) - K * K * (S * C) = e1 * e2 - S * e2 * K - C * e1 * K := by rw [h1, h2]; grind
  rw [key]
  have q0 := mulbd (x := e1) (y := e2) (a := 3 * K) (b := 3 * K) (by omega) (by omega)
  have q1 := mulbd (x := S) (y := e2) (a := 2199023255552) (b := 3 * K) (by omega) (by omega)
  have q2 := mulbd (x := S * e2) (y := K) (a := 2199023255552 * (3 * K)) (b := K) q1 (by omega)
  have q3 := mulbd (x := C) (y := e1) (a := 2199023255552) (b := 3 * K) (by omega) (by omega)
  have q4 := mulbd (x := C * e1) (y := K) (a := 2199023255552 * (3 * K)) (b := K) q3 (by omega)
  have r0 : 3 * K * (3 * K) = 9 * (K * K) := by grind
  have r1 : 2199023255552 * (3 * K) * K = 6597069766656 * (K * K) := by grind
  rw [r0] at q0
  rw [r1] at q2 q4
  omega
theorem le_of_KK {K A B : Int} (hK : 0 < K) (h : A * (K * K) ≤ B * (K * K)) : A ≤ B :=
  Int.le_of_mul_le_mul_right h (Int.mul_pos hK hK)
/-- A sum of two products. -/
theorem sum_near {K S1 C1 S2 C2 S3 P1 Q1 P2 Q2 P3 r : Int} (hK : 0 < K) (h1 : Nr K S1 P1) (k1 : Nr K C1 Q1) (h2 : Nr K S2 P2) (k2 : Nr K C2 Q2) (h3 : Nr K S3 P3)
    (hr : -(r * (K * K)) ≤ (P3 * K - (P1 * Q2 + Q1 * P2)) * 1099511627776 ∧ (P3 * K - (P1 * Q2 + Q1 * P2)) * 1099511627776 ≤ r * (K * K)) :
    -((27 + r) * 1099511627776 + 18) ≤ 1099511627776 * S3 - (S1 * C2 + C1 * S2) ∧ 1099511627776 * S3 - (S1 * C2 + C1 * S2) ≤ (27 + r) * 1099511627776 + 18 := by
  have p1 := prod_near hK h1 k2
  have p2 := prod_near hK k1 h2
  obtain ⟨a1, a2, _, _⟩ := h3
  obtain ⟨e3, he⟩ : ∃ e3, e3 = S3 * K - 1099511627776 * P3 := ⟨_, rfl⟩
  have q := mulbd (x := e3) (y := K) (a := 3 * K) (b := K) (by omega) (by omega)
  have r0 : 3 * K * K = 3 * (K * K) := by grind
  rw [r0] at q
  have key : (1099511627776 * S3 - (S1 * C2 + C1 * S2)) * (K * K) = 1099511627776 * (e3 * K) + 1099511627776 * ((P3 * K - (P1 * Q2 + Q1 * P2)) * 1099511627776) + (1208925819614629174706176 * (P1 * Q2) - K * K * (S1 * C2)) + (1208925819614629174706176 * (Q1 * P2) - K * K * (C1 * S2)) := by rw [he]; grind
  have kb : ((27 + r) * 1099511627776 + 18) * (K * K) = 29686813949970 * (K * K) + 1099511627776 * (r * (K * K)) := by grind
  generalize (P3 * K - (P1 * Q2 + Q1 * P2)) * 1099511627776 = z at *
  generalize e3 * K = z3 at *
  generalize 1208925819614629174706176 * (P1 * Q2) - K * K * (S1 * C2) = z1 at *
  generalize 1208925819614629174706176 * (Q1 * P2) - K * K * (C1 * S2) = z2 at *
  constructor
  · refine le_of_KK hK ?_
    rw [key, Int.neg_mul, kb]
    omega
  · refine le_of_KK hK ?_
    rw [key, kb]
    omega
theorem sin_nr (t : Int) (ht : 0 ≤ t ∧ t ≤ 1727108826179) : ∃ s, sinS false t = (s, false) ∧ Nr kk s (pS t) := by
  obtain ⟨s, e, h1, h2, h3, h4⟩ := sin_near t ht
  exact ⟨s, e, h3, h4, by omega, by omega⟩
theorem cos_nr (t : Int) (ht : 0 ≤ t ∧ t ≤ 1727108826179) : ∃ s, cosS false t = (s, false) ∧ Nr kk s (pC t) := by
  obtain ⟨s, e, h1, h2, h3, h4⟩ := cos_near t ht
  exact ⟨s, e, h3, h4, by omega, by omega⟩
/-- The squares together. -/
theorem one_near {t S C : Int} (ht : 0 ≤ t ∧ t ≤ 1727108826179) (hS : Nr kk S (pS t)) (hC : Nr kk C (pC t)) :
    -(111 * 1099511627776 + 18) ≤ 1208925819614629174706176 - (S * S + C * C) ∧ 1208925819614629174706176 - (S * S + C * C) ≤ 111 * 1099511627776 + 18 := by
  have e := sum_C t (-t) (by omega) (by omega)
  rw [show t + -t = 0 by omega, pC_zero, pC_neg, pS_neg] at e
  have p1 := prod_near kk_pos hS hS
  have p2 := prod_near kk_pos hC hC
  have kp := kk_pos
  generalize pS t = P at *
  generalize pC t = Q at *
  generalize kk = K at *
  have key : (1208925819614629174706176 - (S * S + C * C)) * (K * K) = 1099511627776 * ((K * K - (Q * Q - P * -P)) * 1099511627776) + (1208925819614629174706176 * (P * P) - K * K * (S * S)) + (1208925819614629174706176 * (Q * Q) - K * K * (C * C)) := by grind
  generalize (K * K - (Q * Q - P * -P)) * 1099511627776 = z at *
  generalize 1208925819614629174706176 * (P * P) - K * K * (S * S) = z1 at *
  generalize 1208925819614629174706176 * (Q * Q) - K * K * (C * C) = z2 at *
  constructor
  · refine le_of_KK kp ?_
    rw [key, Int.neg_mul]
    omega
  · refine le_of_KK kp ?_
    rw [key]
    omega

/-! ### A sum of angles within one quarter, and beyond it -/
theorem core1 {x y S1 C1 S2 C2 S3 C3 : Int} (hx : 0 ≤ x ∧ x ≤ 1727108826179) (hy : 0 ≤ y ∧ y ≤ 1727108826179)
    (h1 : Nr kk S1 (pS x)) (k1 : Nr kk C1 (pC x)) (h2 : Nr kk S2 (pS y)) (k2 : Nr kk C2 (pC y)) (h3 : Nr kk S3 (pS (x + y))) (k3 : Nr kk C3 (pC (x + y))) :
    (-274877906944000 ≤ 1099511627776 * S3 - (S1 * C2 + C1 * S2) ∧ 1099511627776 * S3 - (S1 * C2 + C1 * S2) ≤ 274877906944000) ∧
    (-274877906944000 ≤ 1099511627776 * C3 - (C1 * C2 - S1 * S2) ∧ 1099511627776 * C3 - (C1 * C2 - S1 * S2) ≤ 274877906944000) := by
  have a := sum_near (r := 12) kk_pos h1 k1 h2 k2 h3 (sum_S x y (by omega) (by omega))
  have b := sum_near (r := 87) kk_pos k1 h1.neg h2 k2 k3 (by
    have e := sum_C x y (by omega) (by omega)
    rw [show pC x * pC y - pS x * pS y = pC x * pC y + -pS x * pS y by grind] at e
    exact e)
  rw [show C1 * C2 + -S1 * S2 = C1 * C2 - S1 * S2 by grind] at b
  constructor <;> omega
theorem beyond (x y z : Int) (hz : 0 ≤ z ∧ z ≤ 1727108826179) (hx : 0 ≤ x ∧ x ≤ 1727108826179) (hy : 0 ≤ y ∧ y ≤ 1727108826179) (e : x + y = z + 1727108826179) :
    (-(30 * (kk * kk)) ≤ (pC z * kk - (pS x * pC y + pC x * pS y)) * 1099511627776 ∧ (pC z * kk - (pS x * pC y + pC x * pS y)) * 1099511627776 ≤ 30 * (kk * kk)) ∧
    (-(180 * (kk * kk)) ≤ (-pS z * kk - (pC x * pC y + -pS x * pS y)) * 1099511627776 ∧ (-pS z * kk - (pC x * pC y + -pS x * pS y)) * 1099511627776 ≤ 180 * (kk * kk)) := by
  have a1 := sum_S x y (by omega) (by omega)
  have a2 := sum_S z 1727108826179 (by omega) (by omega)
  have b1 := sum_C x y (by omega) (by omega)
  have b2 := sum_C z 1727108826179 (by omega) (by omega)
  rw [e] at a1 b1
  have c1 := pS_bd z (by omega)
  have c2 := pC_bd z (by omega)
  have d1 := pS_h
  have d2 := pC_h
  have f1 := mulbd (x := pS z) (y := pC 1727108826179 * 1099511627776) (a := 3 * kk) (b := kk) c1 d2
  have f2 := mulbd (x := pC z) (y := (pS 1727108826179 - kk) * 1099511627776) (a := 3 * kk) (b := kk) c2 d1
  have f3 := mulbd (x := pC z) (y := pC 1727108826179 * 1099511627776) (a := 3 * kk) (b := kk) c2 d2
  have f4 := mulbd (x := pS z) (y := (pS 1727108826179 - kk) * 1099511627776) (a := 3 * kk) (b := kk) c1 d1
  have r0 : 3 * kk * kk = 3 * (kk * kk) := by grind
  rw [r0] at f1 f2 f3 f4
  clear c1 c2 d1 d2 r0
  generalize pS (z + 1727108826179) = Ph at *
  generalize pC (z + 1727108826179) = Qh at *
  generalize pS 1727108826179 = sh at *
  generalize pC 1727108826179 = ch at *
  generalize pS x = P1 at *
  generalize pC x = Q1 at *
  generalize pS y = P2 at *
  generalize pC y = Q2 at *
  generalize pS z = P3 at *
  generalize pC z = Q3 at *
  generalize kk = K at *
  have g1 : (Q3 * K - (P1 * Q2 + Q1 * P2)) * 1099511627776 = (Ph * K - (P1 * Q2 + Q1 * P2)) * 1099511627776 - (Ph * K - (P3 * ch + Q3 * sh)) * 1099511627776 - P3 * (ch * 1099511627776) - Q3 * ((sh - K) * 1099511627776) := by grind
  have g2 : (-P3 * K - (Q1 * Q2 + -P1 * P2)) * 1099511627776 = (Qh * K - (Q1 * Q2 - P1 * P2)) * 1099511627776 - (Qh * K - (Q3 * ch - P3 * sh)) * 1099511627776 - Q3 * (ch * 1099511627776) + P3 * ((sh - K) * 1099511627776) := by grind
  rw [g1, g2]
  constructor <;> omega
theorem core2 {x y z S1 C1 S2 C2 S3 C3 : Int} (hz : 0 ≤ z ∧ z ≤ 1727108826179) (hx : 0 ≤ x ∧ x ≤ 1727108826179) (hy : 0 ≤ y ∧ y ≤ 1727108826179) (e : x + y = z + 1727108826179)
    (h1 : Nr kk S1 (pS x)) (k1 : Nr kk C1 (pC x)) (h2 : Nr kk S2 (pS y)) (k2 : Nr kk C2 (pC y)) (h3 : Nr kk S3 (pS z)) (k3 : Nr kk C3 (pC z)) :
    (-274877906944000 ≤ 1099511627776 * C3 - (S1 * C2 + C1 * S2) ∧ 1099511627776 * C3 - (S1 * C2 + C1 * S2) ≤ 274877906944000) ∧
    (-274877906944000 ≤ 1099511627776 * -S3 - (C1 * C2 - S1 * S2) ∧ 1099511627776 * -S3 - (C1 * C2 - S1 * S2) ≤ 274877906944000) := by
  have bb := beyond x y z hz hx hy e
  have a := sum_near (r := 30) kk_pos h1 k1 h2 k2 k3 bb.1
  have b := sum_near (r := 180) kk_pos k1 h1.neg h2 k2 h3.neg bb.2
  rw [show C1 * C2 + -S1 * S2 = C1 * C2 - S1 * S2 by grind] at b
  constructor <;> omega

/-! ### Any angle -/
theorem badM_num {a : Int} (h : numB a = true) : badM false a = false := by
  unfold badM
  rw [modS_yes (by unfold tk; simp [h, show numB 6908435304716 = true by rfl]) (by decide)]
theorem rest4_num {a : Int} (h : numB a = true) : rest4 false a = a % 6908435304716 := by
  unfold rest4
  rw [modS_yes (by unfold tk; simp [h, show numB 6908435304716 = true by rfl]) (by decide)]
/-- What Sin and Cos answer in quarter k, of S and C. -/
def selS (k S C : Int) : Int := if k = 0 then S else if k = 1 then C else if k = 2 then -S else -C
def selC (k S C : Int) : Int := if k = 0 then C else if k = 1 then -S else if k = 2 then -C else S
theorem pick_sel {k t S C : Int} (hs : sinS false t = (S, false)) (hc : cosS false t = (C, false)) : pick k false t = (selS k S C, false) := by
  unfold pick selS
  rw [hs, hc]
  split
  · rfl
  · split
    · rfl
    · split <;> rfl
theorem selS_next (k S C : Int) (h : 0 ≤ k ∧ k ≤ 3) : selS (if k = 3 then 0 else k + 1) S C = selC k S C := by
  have : k = 0 ∨ k = 1 ∨ k = 2 ∨ k = 3 := by omega
  rcases this with rfl | rfl | rfl | rfl <;> rfl
/-- An angle's quarter, and what its sine and cosine are. -/
theorem angle (a : Int) (h : numB a = true) : ∃ k t S C, 0 ≤ k ∧ k ≤ 3 ∧ 0 ≤ t ∧ t < 1727108826179 ∧ a % 6908435304716 = k * 1727108826179 + t ∧ Nr kk S (pS t) ∧ Nr kk C (pC t) ∧ sinA false a = (selS k S C, false) ∧ cosA false a = (selC k S C, false) := by
  have q := quart_bd false a
  obtain ⟨S, es, ns⟩ := sin_nr (inq false a) (by omega)
  obtain ⟨C, ec, nc⟩ := cos_nr (inq false a) (by omega)
  refine ⟨quart false a, inq false a, S, C, q.1, q.2.1, q.2.2.1, q.2.2.2, ?_, ns, nc, ?_, ?_⟩
  · rw [← rest4_num h]; unfold inq; omega
  · unfold sinA; rw [badM_num h]; exact pick_sel es ec
  · unfold cosA; rw [badM_num h, pick_sel es ec, selS_next _ _ _ ⟨q.1, q.2.1⟩]
theorem sel_bd {k S C : Int} (s1 : -2199023255552 ≤ S ∧ S ≤ 2199023255552) (c1 : -2199023255552 ≤ C ∧ C ≤ 2199023255552) :
    (-2199023255552 ≤ selS k S C ∧ selS k S C ≤ 2199023255552) ∧ (-2199023255552 ≤ selC k S C ∧ selC k S C ≤ 2199023255552) := by
  unfold selS selC
  constructor
  · split
    · omega
    · split
      · omega
      · split <;> omega
  · split
    · omega
    · split
      · omega
      · split <;> omega
theorem sel_sq (k S C : Int) (h : 0 ≤ k ∧ k ≤ 3) : selS k S C * selS k S C + selC k S C * selC k S C = S * S + C * C := by
  have : k = 0 ∨ k = 1 ∨ k = 2 ∨ k = 3 := by omega
  rcases this with rfl | rfl | rfl | rfl
  · rfl
  · show C * C + -S * -S = _
    grind
  · show -S * -S + -C * -C = _
    grind
  · show -C * -C + S * S = _
    grind
/-- TrigOne, of numbers. -/
theorem one_math (a : Int) (h : numB a = true) : ∃ s c m1 m2, sinA false a = (s, false) ∧ cosA false a = (c, false) ∧ mulS false s s = (m1, false) ∧ mulS false c c = (m2, false) ∧ addS false m1 m2 = (m1 + m2, false) ∧
    m1 + m2 - 1099511627776 ≤ 256 ∧ 1099511627776 - (m1 + m2) ≤ 256 ∧ 0 ≤ m1 + m2 := by
  obtain ⟨k, t, S, C, k0, k1, t0, t1, _, nS, nC, es, ec⟩ := angle a h
  have b := sel_bd (k := k) (S := S) (C := C) ⟨nS.bl, nS.bh⟩ ⟨nC.bl, nC.bh⟩
  obtain ⟨m1, e1, p1, p2, p3⟩ := mulS_small (selS k S C) (selS k S C) (by omega) (by omega)
  obtain ⟨m2, e2, q1, q2, q3⟩ := mulS_small (selC k S C) (selC k S C) (by omega) (by omega)
  have o := one_near ⟨t0, by omega⟩ nS nC
  have sq := sel_sq k S C ⟨k0, k1⟩
  have g1 := p3 (by rw [← sz_sq]; exact Int.mul_nonneg (le_sz _).2.2 (le_sz _).2.2)
  have g2 := q3 (by rw [← sz_sq]; exact Int.mul_nonneg (le_sz _).2.2 (le_sz _).2.2)
  have f1 : m1 + m2 - 1099511627776 ≤ 256 := by omega
  have f2 : 1099511627776 - (m1 + m2) ≤ 256 := by omega
  exact ⟨_, _, m1, m2, es, ec, e1, e2, addS_good _ _ (numB_of (by omega)) (numB_of (by omega)) (numB_of (by omega)), f1, f2, by omega⟩
/-! ### A sum of any two angles -/
def mod4 (k : Int) : Int := if 4 ≤ k then k - 4 else k
theorem rot (ka kb S1 C1 S2 C2 : Int) (ha : 0 ≤ ka ∧ ka ≤ 3) (hb : 0 ≤ kb ∧ kb ≤ 3) :
    selS ka S1 C1 * selC kb S2 C2 + selC ka S1 C1 * selS kb S2 C2 = selS (mod4 (ka + kb)) (S1 * C2 + C1 * S2) (C1 * C2 - S1 * S2) ∧
    selC ka S1 C1 * selC kb S2 C2 - selS ka S1 C1 * selS kb S2 C2 = selC (mod4 (ka + kb)) (S1 * C2 + C1 * S2) (C1 * C2 - S1 * S2) := by
  have h1 : ka = 0 ∨ ka = 1 ∨ ka = 2 ∨ ka = 3 := by omega
  have h2 : kb = 0 ∨ kb = 1 ∨ kb = 2 ∨ kb = 3 := by omega
  rcases h1 with rfl | rfl | rfl | rfl <;> rcases h2 with rfl | rfl | rfl | rfl <;> simp [selS, selC, mod4] <;> grind
theorem sel_near {k S3 C3 A B : Int} (h1 : -274877906944000 ≤ 1099511627776 * S3 - A ∧ 1099511627776 * S3 - A ≤ 274877906944000) (h2 : -274877906944000 ≤ 1099511627776 * C3 - B ∧ 1099511627776 * C3 - B ≤ 274877906944000) :
    (-274877906944000 ≤ 1099511627776 * selS k S3 C3 - selS k A B ∧ 1099511627776 * selS k S3 C3 - selS k A B ≤ 274877906944000) ∧
    (-274877906944000 ≤ 1099511627776 * selC k S3 C3 - selC k A B ∧ 1099511627776 * selC k S3 C3 - selC k A B ≤ 274877906944000) := by
  unfold selS selC
  constructor
  · split
    · omega
    · split
      · omega
      · split <;> omega
  · split
    · omega
    · split
      · omega
      · split <;> omega
theorem sel_turn (k S C : Int) (h : 0 ≤ k ∧ k ≤ 3) : selS (mod4 (k + 1)) S C = selS k C (-S) ∧ selC (mod4 (k + 1)) S C = selC k C (-S) := by
  have h1 : k = 0 ∨ k = 1 ∨ k = 2 ∨ k = 3 := by omega
  rcases h1 with rfl | rfl | rfl | rfl <;> simp [selS, selC, mod4]
theorem sum_quart (a b ka kb k3 ta tb t3 : Int) (_ha : 0 ≤ ka ∧ ka ≤ 3) (_hb : 0 ≤ kb ∧ kb ≤ 3) (h3 : 0 ≤ k3 ∧ k3 ≤ 3) (hta : 0 ≤ ta ∧ ta < 1727108826179) (htb : 0 ≤ tb ∧ tb < 1727108826179) (ht3 : 0 ≤ t3 ∧ t3 < 1727108826179)
    (ea : a % 6908435304716 = ka * 1727108826179 + ta) (eb : b % 6908435304716 = kb * 1727108826179 + tb) (e3 : (a + b) % 6908435304716 = k3 * 1727108826179 + t3) :
    (ta + tb < 1727108826179 → t3 = ta + tb ∧ k3 = mod4 (ka + kb)) ∧ (1727108826179 ≤ ta + tb → ta + tb = t3 + 1727108826179 ∧ k3 = mod4 (mod4 (ka + kb) + 1)) := by
  unfold mod4
  constructor
  · intro h
    split <;> omega
  · intro h
    split <;> split <;> omega
/-- The sine and the cosine of a sum are near what the parts say. -/
theorem tsum_any (a b : Int) (ha : numB a = true) (hb : numB b = true) (hab : numB (a + b) = true) : ∃ s c t d x y, sinA false a = (s, false) ∧ cosA false a = (c, false) ∧ sinA false b = (t, false) ∧ cosA false b = (d, false) ∧ sinA false (a + b) = (x, false) ∧ cosA false (a + b) = (y, false) ∧
    (-274877906944000 ≤ 1099511627776 * x - (s * d + c * t) ∧ 1099511627776 * x - (s * d + c * t) ≤ 274877906944000) ∧ (-274877906944000 ≤ 1099511627776 * y - (c * d - s * t) ∧ 1099511627776 * y - (c * d - s * t) ≤ 274877906944000) ∧
    (-2199023255552 ≤ s ∧ s ≤ 2199023255552) ∧ (-2199023255552 ≤ c ∧ c ≤ 2199023255552) ∧ (-2199023255552 ≤ t ∧ t ≤ 2199023255552) ∧ (-2199023255552 ≤ d ∧ d ≤ 2199023255552) ∧ (-2199023255552 ≤ x ∧ x ≤ 2199023255552) ∧ (-2199023255552 ≤ y ∧ y ≤ 2199023255552) := by
  obtain ⟨ka, ta, S1, C1, a1, a2, a3, a4, ea, n1, m1, f1, g1⟩ := angle a ha
  obtain ⟨kb, tb, S2, C2, b1, b2, b3, b4, eb, n2, m2, f2, g2⟩ := angle b hb
  obtain ⟨k3, t3, S3, C3, c1, c2, c3, c4, e3, n3, m3, f3, g3⟩ := angle (a + b) hab
  have sq := sum_quart a b ka kb k3 ta tb t3 ⟨a1, a2⟩ ⟨b1, b2⟩ ⟨c1, c2⟩ ⟨a3, a4⟩ ⟨b3, b4⟩ ⟨c3, c4⟩ ea eb e3
  have ro := rot ka kb S1 C1 S2 C2 ⟨a1, a2⟩ ⟨b1, b2⟩
  have r1 := sel_bd (k := ka) (S := S1) (C := C1) ⟨n1.bl, n1.bh⟩ ⟨m1.bl, m1.bh⟩
  have r2 := sel_bd (k := kb) (S := S2) (C := C2) ⟨n2.bl, n2.bh⟩ ⟨m2.bl, m2.bh⟩
  have r3 := sel_bd (k := k3) (S := S3) (C := C3) ⟨n3.bl, n3.bh⟩ ⟨m3.bl, m3.bh⟩
  refine ⟨_, _, _, _, _, _, f1, g1, f2, g2, f3, g3, ?_, ?_, r1.1, r1.2, r2.1, r2.2, r3.1, r3.2⟩
  · rw [ro.1]
    by_cases h : ta + tb < 1727108826179
    · obtain ⟨rfl, rfl⟩ := sq.1 h
      have cc := core1 ⟨a3, by omega⟩ ⟨b3, by omega⟩ n1 m1 n2 m2 n3 m3
      exact (sel_near cc.1 cc.2).1
    · obtain ⟨e, rfl⟩ := sq.2 (by omega)
      have cc := core2 ⟨c3, by omega⟩ ⟨a3, by omega⟩ ⟨b3, by omega⟩ e n1 m1 n2 m2 n3 m3
      rw [(sel_turn (mod4 (ka + kb)) S3 C3 (by unfold mod4; split <;> omega)).1]
      exact (sel_near cc.1 cc.2).1
  · rw [ro.2]
    by_cases h : ta + tb < 1727108826179
    · obtain ⟨rfl, rfl⟩ := sq.1 h
      have cc := core1 ⟨a3, by omega⟩ ⟨b3, by omega⟩ n1 m1 n2 m2 n3 m3
      exact (sel_near cc.1 cc.2).2
    · obtain ⟨e, rfl⟩ := sq.2 (by omega)
      have cc := core2 ⟨c3, by omega⟩ ⟨a3, by omega⟩ ⟨b3, by omega⟩ e n1 m1 n2 m2 n3 m3
      rw [(sel_turn (mod4 (ka + kb)) S3 C3 (by unfold mod4; split <;> omega)).2]
      exact (sel_near cc.1 cc.2).2
/-- TrigSums, of angles of up to 16. -/
theorem sums_math (a b : Int) (ha : -17592186044416 ≤ a ∧ a ≤ 17592186044416) (hb : -17592186044416 ≤ b ∧ b ≤ 17592186044416) :
    ∃ s c t d x y m1 m2 m3 m4, sinA false a = (s, false) ∧ cosA false a = (c, false) ∧ sinA false b = (t, false) ∧ cosA false b = (d, false) ∧ sinA false (a + b) = (x, false) ∧ cosA false (a + b) = (y, false) ∧
      mulS false s d = (m1, false) ∧ mulS false c t = (m2, false) ∧ addS false m1 m2 = (m1 + m2, false) ∧ mulS false c d = (m3, false) ∧ mulS false s t = (m4, false) ∧ subS false m3 m4 = (m3 - m4, false) ∧
      x - (m1 + m2) ≤ 256 ∧ (m1 + m2) - x ≤ 256 ∧ y - (m3 - m4) ≤ 256 ∧ (m3 - m4) - y ≤ 256 ∧ (-2199023255552 ≤ x ∧ x ≤ 2199023255552) ∧ (-2199023255552 ≤ y ∧ y ≤ 2199023255552) := by
  obtain ⟨s, c, t, d, x, y, e1, e2, e3, e4, e5, e6, h1, h2, bs, bc, bt, bd, bx, bb⟩ := tsum_any a b (numB_of (by omega)) (numB_of (by omega)) (numB_of (by omega))
  obtain ⟨m1, f1, p1, p2, _⟩ := mulS_small s d (by omega) (by omega)
  obtain ⟨m2, f2, q1, q2, _⟩ := mulS_small c t (by omega) (by omega)
  obtain ⟨m3, f3, r1, r2, _⟩ := mulS_small c d (by omega) (by omega)
  obtain ⟨m4, f4, u1, u2, _⟩ := mulS_small s t (by omega) (by omega)
  have z1 := mulbd (x := s) (y := d) (a := 2199023255552) (b := 2199023255552) bs bd
  have z2 := mulbd (x := c) (y := t) (a := 2199023255552) (b := 2199023255552) bc bt
  have z3 := mulbd (x := c) (y := d) (a := 2199023255552) (b := 2199023255552) bc bd
  have z4 := mulbd (x := s) (y := t) (a := 2199023255552) (b := 2199023255552) bs bt
  refine ⟨s, c, t, d, x, y, m1, m2, m3, m4, e1, e2, e3, e4, e5, e6, f1, f2, addS_good _ _ (numB_of (by omega)) (numB_of (by omega)) (numB_of (by omega)), f3, f4, subS_good _ _ (numB_of (by omega)) (numB_of (by omega)) (numB_of (by omega)), by omega, by omega, by omega, by omega, bx, bb⟩
end Go.Proofs.YtoadcnhcfodkgaaGreatDoor
