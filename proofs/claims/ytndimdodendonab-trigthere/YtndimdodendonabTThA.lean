/-
  An angle doubled, and a direction at the distance 1: plain inequalities, for the seat Ytndimdodendonab. No Go text in sight.
-/
import Derived.Test.YtndimdodendonabTPoly
namespace Go.Proofs.Ytndimdodendonab

theorem sq_nonneg (x : Int) : 0 ≤ x * x := by
  rw [← sz_sq]
  exact Int.mul_nonneg (by unfold sz; split <;> omega) (by unfold sz; split <;> omega)
/-- Of two numbers whose squares are K K together, nearly. -/
theorem unit_bd {K P Q : Int} (hK : 0 < K) (h : -(87 * (K * K)) ≤ (K * K - (Q * Q + P * P)) * 1099511627776) : -(1025 * K) ≤ 1024 * P ∧ 1024 * P ≤ 1025 * K := by
  have kk0 := Int.mul_pos hK hK
  have q0 := sq_nonneg Q
  constructor
  · by_cases c : -(1025 * K) ≤ 1024 * P
    · exact c
    · have := sq_mono (by omega : 0 ≤ 1025 * K) (by omega : 1025 * K ≤ -(1024 * P))
      rw [show 1025 * K * (1025 * K) = 1050625 * (K * K) by grind, show -(1024 * P) * -(1024 * P) = 1048576 * (P * P) by grind] at this
      generalize K * K = k2 at *
      generalize P * P = p2 at *
      generalize Q * Q = q2 at *
      omega
  · by_cases c : 1024 * P ≤ 1025 * K
    · exact c
    · have := sq_mono (by omega : 0 ≤ 1025 * K) (by omega : 1025 * K ≤ 1024 * P)
      rw [show 1025 * K * (1025 * K) = 1050625 * (K * K) by grind, show 1024 * P * (1024 * P) = 1048576 * (P * P) by grind] at this
      generalize K * K = k2 at *
      generalize P * P = p2 at *
      generalize Q * Q = q2 at *
      omega
/-- What is off of a doubled angle, but for its rounding. -/
theorem dbl_main (K S C t1 t2 s e : Int) (hK : 0 < K) (bS : -(1025 * K) ≤ 1024 * S ∧ 1024 * S ≤ 1025 * K) (bC : -(1025 * K) ≤ 1024 * C ∧ 1024 * C ≤ 1025 * K)
    (ht : 0 ≤ t1 ∧ t1 ≤ 1099511627776) (hs : 1099511627776 ≤ s ∧ 10000 * s ≤ 14143 * 1099511627776)
    (hk : -(9 * 1099511627776) ≤ 2 * (s * s - 1208925819614629174706176 - t1 * t1) ∧ 2 * (s * s - 1208925819614629174706176 - t1 * t1) ≤ 9 * 1099511627776)
    (hd : -(1099511627776 + s) ≤ 2 * (t2 * (1099511627776 + s) - t1 * 1099511627776) ∧ 2 * (t2 * (1099511627776 + s) - t1 * 1099511627776) ≤ 1099511627776 + s)
    (hD : -(e * K) ≤ 1099511627776 * S - t2 * C ∧ 1099511627776 * S - t2 * C ≤ e * K) :
    -((7 * e + 9) * (K * K)) ≤ 2 * (1099511627776 * (S * C + C * S) - t1 * (C * C - S * S)) ∧ 2 * (1099511627776 * (S * C + C * S) - t1 * (C * C - S * S)) ≤ (7 * e + 9) * (K * K) := by
  obtain ⟨T, hT⟩ : ∃ T, T = 1099511627776 + s := ⟨_, rfl⟩
  obtain ⟨k, hkk⟩ : ∃ k, k = s * s - 1208925819614629174706176 - t1 * t1 := ⟨_, rfl⟩
  obtain ⟨d, hdd⟩ : ∃ d, d = t2 * T - t1 * 1099511627776 := ⟨_, rfl⟩
  obtain ⟨D, hDD⟩ : ∃ D, D = 1099511627776 * S - t2 * C := ⟨_, rfl⟩
  rw [← hkk] at hk
  rw [← hT, ← hdd] at hd
  rw [← hDD] at hD
  have key : 1099511627776 * (T * (1099511627776 * (S * C + C * S) - t1 * (C * C - S * S))) = (T * C + t1 * S) * (T * D + d * C) - 1099511627776 * (k * (S * C)) := by
    rw [hkk, hdd, hDD, hT]
    grind
  -- the parts
  have TK : 0 ≤ T * K := Int.mul_nonneg (by omega) (by omega)
  have g1 := mulbd (x := T) (y := 1024 * C) (a := T) (b := 1025 * K) (by omega) bC
  have g2 := mulbd (x := t1) (y := 1024 * S) (a := 1099511627776) (b := 1025 * K) (by omega) bS
  have g3 : T * K ≤ 2654551100940 * K := Int.mul_le_mul_of_nonneg_right (by omega) (by omega)
  rw [show T * (1024 * C) = 1024 * (T * C) by grind, show T * (1025 * K) = 1025 * (T * K) by grind] at g1
  rw [show t1 * (1024 * S) = 1024 * (t1 * S) by grind] at g2
  have gG : -(7696581394432 * K) ≤ 2 * (T * C + t1 * S) ∧ 2 * (T * C + t1 * S) ≤ 7696581394432 * K := by omega
  have f1 := mulbd (x := T) (y := D) (a := T) (b := e * K) (by omega) hD
  have f2 := mulbd (x := 2 * d) (y := 1024 * C) (a := T) (b := 1025 * K) hd bC
  rw [show T * (e * K) = e * (T * K) by grind] at f1
  rw [show 2 * d * (1024 * C) = 2048 * (d * C) by grind, show T * (1025 * K) = 1025 * (T * K) by grind] at f2
  have gF : -(2048 * (e * (T * K)) + 1025 * (T * K)) ≤ 2048 * (T * D + d * C) ∧ 2048 * (T * D + d * C) ≤ 2048 * (e * (T * K)) + 1025 * (T * K) := by omega
  have m := mulbd gG gF
  have sc := mulbd bS bC
  have kc := mulbd hk sc
  have TKK : 2199023255552 * (K * K) ≤ T * (K * K) := Int.mul_le_mul_of_nonneg_right (by omega) (sq_nonneg K)
  have K2 := sq_nonneg K
  rw [show 2 * (T * C + t1 * S) * (2048 * (T * D + d * C)) = 4096 * ((T * C + t1 * S) * (T * D + d * C)) by grind, show 7696581394432 * K * (2048 * (e * (T * K)) + 1025 * (T * K)) = 1099511627776 * (14336 * (e * (T * (K * K))) + 7175 * (T * (K * K))) by grind] at m
  rw [show 2 * k * (1024 * S * (1024 * C)) = 2097152 * (k * (S * C)) by grind, show 9 * 1099511627776 * (1025 * K * (1025 * K)) = 10396569635389440000 * (K * K) by grind] at kc
  have r : T * ((7 * e + 9) * (K * K)) = 7 * (e * (T * (K * K))) + 9 * (T * (K * K)) := by grind
  have Tp : 0 < T := by omega
  generalize 1099511627776 * (S * C + C * S) - t1 * (C * C - S * S) = M at *
  generalize (T * C + t1 * S) * (T * D + d * C) = GF at *
  generalize k * (S * C) = ksc at *
  generalize e * (T * (K * K)) = eX at *
  generalize hX : T * (K * K) = X at *
  generalize K * K = k2 at *
  constructor
  · refine Int.le_of_mul_le_mul_left (a := T) ?_ Tp
    rw [Int.mul_neg, r, show T * (2 * M) = 2 * (T * M) by grind]
    generalize T * M = TM at *
    omega
  · refine Int.le_of_mul_le_mul_left (a := T) ?_ Tp
    rw [r, show T * (2 * M) = 2 * (T * M) by grind]
    generalize T * M = TM at *
    omega
/-- A doubled angle, with its rounding. -/
theorem dbl_abs (K S C S2 C2 t1 t2 s e : Int) (hK : 0 < K) (bS : -(1025 * K) ≤ 1024 * S ∧ 1024 * S ≤ 1025 * K) (bC : -(1025 * K) ≤ 1024 * C ∧ 1024 * C ≤ 1025 * K)
    (ht : 0 ≤ t1 ∧ t1 ≤ 1099511627776) (hs : 1099511627776 ≤ s ∧ 10000 * s ≤ 14143 * 1099511627776)
    (hk : -(9 * 1099511627776) ≤ 2 * (s * s - 1208925819614629174706176 - t1 * t1) ∧ 2 * (s * s - 1208925819614629174706176 - t1 * t1) ≤ 9 * 1099511627776)
    (hd : -(1099511627776 + s) ≤ 2 * (t2 * (1099511627776 + s) - t1 * 1099511627776) ∧ 2 * (t2 * (1099511627776 + s) - t1 * 1099511627776) ≤ 1099511627776 + s)
    (hD : -(e * K) ≤ 1099511627776 * S - t2 * C ∧ 1099511627776 * S - t2 * C ≤ e * K)
    (h12 : -(12 * (K * K)) ≤ (S2 * K - (S * C + C * S)) * 1099511627776 ∧ (S2 * K - (S * C + C * S)) * 1099511627776 ≤ 12 * (K * K))
    (h87 : -(87 * (K * K)) ≤ (C2 * K - (C * C - S * S)) * 1099511627776 ∧ (C2 * K - (C * C - S * S)) * 1099511627776 ≤ 87 * (K * K)) :
    -((7 * e + 208) * K) ≤ 2 * (1099511627776 * S2 - t1 * C2) ∧ 2 * (1099511627776 * S2 - t1 * C2) ≤ (7 * e + 208) * K := by
  have m := dbl_main K S C t1 t2 s e hK bS bC ht hs hk hd hD
  have h3 := mulbd (x := t1) (y := (C2 * K - (C * C - S * S)) * 1099511627776) (a := 1099511627776) (b := 87 * (K * K)) (by omega) h87
  have key : (2 * (1099511627776 * S2 - t1 * C2)) * K = 2 * (1099511627776 * (S * C + C * S) - t1 * (C * C - S * S)) + 2 * ((S2 * K - (S * C + C * S)) * 1099511627776) - 2 * (t1 * (C2 * K - (C * C - S * S))) := by grind
  have r3 : t1 * ((C2 * K - (C * C - S * S)) * 1099511627776) = 1099511627776 * (t1 * (C2 * K - (C * C - S * S))) := by grind
  rw [r3] at h3
  have r1 : (7 * e + 208) * K * K = 7 * (e * (K * K)) + 208 * (K * K) := by grind
  have r2 : (7 * e + 9) * (K * K) = 7 * (e * (K * K)) + 9 * (K * K) := by grind
  rw [r2] at m
  have K2 := sq_nonneg K
  generalize 1099511627776 * (S * C + C * S) - t1 * (C * C - S * S) = M at *
  generalize (S2 * K - (S * C + C * S)) * 1099511627776 = E1 at *
  generalize t1 * (C2 * K - (C * C - S * S)) = E2 at *
  generalize e * (K * K) = eX at *
  constructor
  · refine Int.le_of_mul_le_mul_right (a := K) ?_ hK
    rw [key, Int.neg_mul, r1]
    generalize K * K = k2 at *
    omega
  · refine Int.le_of_mul_le_mul_right (a := K) ?_ hK
    rw [key, r1]
    generalize K * K = k2 at *
    omega
/-- How long the direction is. -/
theorem long_abs (K S C L H t n : Int) (hK : 0 < K) (bC : -(1025 * K) ≤ 1024 * C ∧ 1024 * C ≤ 1025 * K) (c0 : K ≤ 4 * C)
    (h1 : -(87 * (K * K)) ≤ (K * K - (C * C + S * S)) * 1099511627776 ∧ (K * K - (C * C + S * S)) * 1099511627776 ≤ 87 * (K * K)) (hL : 0 ≤ L ∧ L ≤ H) (hH : 0 < H) (hn : 1099511627776 ≤ n)
    (n1 : n * n ≤ H * H + L * L) (n2 : H * H + L * L < (n + 1) * (n + 1)) (hd : -H ≤ 2 * (t * H - L * 1099511627776) ∧ 2 * (t * H - L * 1099511627776) ≤ H) (ht : 0 ≤ t)
    (hD : -(556 * K) ≤ 1099511627776 * S - t * C ∧ 1099511627776 * S - t * C ≤ 556 * K) :
    (-(557 * (H * K)) ≤ 1099511627776 * (H * S - L * C) ∧ 1099511627776 * (H * S - L * C) ≤ 557 * (H * K)) ∧
    (-(50 * (n * K)) ≤ 1099511627776 * (H * C + L * S - n * K) ∧ 1099511627776 * (H * C + L * S - n * K) ≤ 50 * (n * K)) ∧ H ≤ n := by
  have Hn : H ≤ n := by
    by_cases c : H ≤ n
    · exact c
    · have := sq_mono (by omega : 0 ≤ n + 1) (by omega : n + 1 ≤ H)
      have := sq_nonneg L
      omega
  have HK : 0 < H * K := Int.mul_pos hH hK
  have jb : -(557 * (H * K)) ≤ 1099511627776 * (H * S - L * C) ∧ 1099511627776 * (H * S - L * C) ≤ 557 * (H * K) := by
    obtain ⟨d, hdd⟩ : ∃ d, d = t * H - L * 1099511627776 := ⟨_, rfl⟩
    obtain ⟨D, hDD⟩ : ∃ D, D = 1099511627776 * S - t * C := ⟨_, rfl⟩
    rw [← hdd] at hd
    rw [← hDD] at hD
    have key : 1099511627776 * (H * S - L * C) = H * D + d * C := by rw [hdd, hDD]; grind
    have q1 := mulbd (x := H) (y := D) (a := H) (b := 556 * K) (by omega) hD
    have q2 := mulbd (x := 2 * d) (y := 1024 * C) (a := H) (b := 1025 * K) hd bC
    rw [show H * (556 * K) = 556 * (H * K) by grind] at q1
    rw [show 2 * d * (1024 * C) = 2048 * (d * C) by grind, show H * (1025 * K) = 1025 * (H * K) by grind] at q2
    rw [key]
    omega
  refine ⟨jb, ?_, Hn⟩
  -- the dot product is above 0
  have tC : 0 ≤ t * C := Int.mul_nonneg ht (by omega)
  have LS := Int.mul_le_mul_of_nonneg_left (by omega : -(556 * K) ≤ 1099511627776 * S) hL.1
  have LK : L * K ≤ H * K := Int.mul_le_mul_of_nonneg_right hL.2 (by omega)
  have HC := Int.mul_le_mul_of_nonneg_left c0 (by omega : 0 ≤ H)
  rw [show L * -(556 * K) = -(556 * (L * K)) by grind, show L * (1099511627776 * S) = 1099511627776 * (L * S) by grind] at LS
  rw [show H * (4 * C) = 4 * (H * C) by grind] at HC
  obtain ⟨G, hG⟩ : ∃ G, G = H * C + L * S := ⟨_, rfl⟩
  obtain ⟨J, hJ⟩ : ∃ J, J = H * S - L * C := ⟨_, rfl⟩
  rw [← hG]
  rw [← hJ] at jb
  have G0 : 0 ≤ G := by omega
  have two : G * G + J * J = (H * H + L * L) * (C * C + S * S) := by rw [hG, hJ]; grind
  have R0 : 0 ≤ H * H + L * L := by have := sq_nonneg H; have := sq_nonneg L; omega
  have up := Int.mul_le_mul_of_nonneg_left (by omega : 1099511627776 * (C * C + S * S) ≤ 1099511627863 * (K * K)) R0
  have lo := Int.mul_le_mul_of_nonneg_left (by omega : 1099511627689 * (K * K) ≤ 1099511627776 * (C * C + S * S)) R0
  rw [show (H * H + L * L) * (1099511627776 * (C * C + S * S)) = 1099511627776 * ((H * H + L * L) * (C * C + S * S)) by grind, ← two] at up lo
  rw [show (H * H + L * L) * (1099511627863 * (K * K)) = 1099511627863 * ((H * H + L * L) * (K * K)) by grind] at up
  rw [show (H * H + L * L) * (1099511627689 * (K * K)) = 1099511627689 * ((H * H + L * L) * (K * K)) by grind] at lo
  have KK := sq_nonneg K
  have u2 := Int.mul_le_mul_of_nonneg_right (Int.le_of_lt n2) KK
  have l2 := Int.mul_le_mul_of_nonneg_right n1 KK
  have A0 : 0 < n * K := Int.mul_pos (by omega) hK
  have AB : 1099511627776 * ((n + 1) * K) ≤ 1099511627777 * (n * K) := by
    have := Int.mul_le_mul_of_nonneg_right hn (by omega : 0 ≤ K)
    have e : (n + 1) * K = n * K + K := by grind
    omega
  have AB2 := sq_mono (by have := Int.mul_nonneg (by omega : 0 ≤ n + 1) (by omega : 0 ≤ K); omega) AB
  have AA := Int.mul_pos A0 A0
  have jj := mulbd (x := 1099511627776 * J) (y := 1099511627776 * J) jb jb
  have hk2 : H * K ≤ n * K := Int.mul_le_mul_of_nonneg_right Hn (by omega)
  have hkk2 := sq_mono (Int.le_of_lt HK) hk2
  rw [show (n + 1) * (n + 1) * (K * K) = (n + 1) * K * ((n + 1) * K) by grind] at u2
  rw [show n * n * (K * K) = n * K * (n * K) by grind] at l2
  rw [show 1099511627776 * ((n + 1) * K) * (1099511627776 * ((n + 1) * K)) = 1208925819614629174706176 * ((n + 1) * K * ((n + 1) * K)) by grind, show 1099511627777 * (n * K) * (1099511627777 * (n * K)) = 1208925819616828197961729 * (n * K * (n * K)) by grind] at AB2
  rw [show 1099511627776 * J * (1099511627776 * J) = 1208925819614629174706176 * (J * J) by grind, show 557 * (H * K) * (557 * (H * K)) = 310249 * (H * K * (H * K)) by grind] at jj
  have J2 := sq_nonneg J
  clear two tC LS LK HC n1 n2 hd hD h1 bC c0 hJ hG
  generalize (H * H + L * L) * (K * K) = Rk at *
  generalize (n + 1) * K * ((n + 1) * K) = BB at *
  generalize H * K * (H * K) = hh at *
  generalize J * J = jsq at *
  constructor
  · by_cases c : -(50 * (n * K)) ≤ 1099511627776 * (G - n * K)
    · exact c
    · have sq := sq_mono (by omega : 0 ≤ 1099511627776 * G) (by omega : 1099511627776 * G ≤ 1099511627726 * (n * K))
      rw [show 1099511627776 * G * (1099511627776 * G) = 1208925819614629174706176 * (G * G) by grind, show 1099511627726 * (n * K) * (1099511627726 * (n * K)) = 1208925819504678011931076 * (n * K * (n * K)) by grind] at sq
      generalize n * K * (n * K) = aa at *
      generalize G * G = gg at *
      omega
  · by_cases c : 1099511627776 * (G - n * K) ≤ 50 * (n * K)
    · exact c
    · have sq := sq_mono (by omega : 0 ≤ 1099511627826 * (n * K)) (by omega : 1099511627826 * (n * K) ≤ 1099511627776 * G)
      rw [show 1099511627776 * G * (1099511627776 * G) = 1208925819614629174706176 * (G * G) by grind, show 1099511627826 * (n * K) * (1099511627826 * (n * K)) = 1208925819724580337486276 * (n * K * (n * K)) by grind] at sq
      generalize n * K * (n * K) = aa at *
      generalize G * G = gg at *
      omega
/-- The direction at the distance 1. -/
theorem norm_abs (K S C L H t n : Int) (hK : 0 < K) (bS : -(1025 * K) ≤ 1024 * S ∧ 1024 * S ≤ 1025 * K) (bC : -(1025 * K) ≤ 1024 * C ∧ 1024 * C ≤ 1025 * K) (c0 : K ≤ 4 * C)
    (h1 : -(87 * (K * K)) ≤ (K * K - (C * C + S * S)) * 1099511627776 ∧ (K * K - (C * C + S * S)) * 1099511627776 ≤ 87 * (K * K)) (hL : 0 ≤ L ∧ L ≤ H) (hH : 0 < H) (hn : 1099511627776 ≤ n)
    (n1 : n * n ≤ H * H + L * L) (n2 : H * H + L * L < (n + 1) * (n + 1)) (hd : -H ≤ 2 * (t * H - L * 1099511627776) ∧ 2 * (t * H - L * 1099511627776) ≤ H) (ht : 0 ≤ t)
    (hD : -(556 * K) ≤ 1099511627776 * S - t * C ∧ 1099511627776 * S - t * C ≤ 556 * K) :
    (-(700 * (K * n)) ≤ 1099511627776 * (S * n - L * K) ∧ 1099511627776 * (S * n - L * K) ≤ 700 * (K * n)) ∧
    (-(700 * (K * n)) ≤ 1099511627776 * (C * n - H * K) ∧ 1099511627776 * (C * n - H * K) ≤ 700 * (K * n)) ∧ H ≤ n := by
  obtain ⟨jb, gb, Hn⟩ := long_abs K S C L H t n hK bC c0 h1 hL hH hn n1 n2 hd ht hD
  have hk2 : H * K ≤ n * K := Int.mul_le_mul_of_nonneg_right Hn (by omega)
  have HK : 0 < H * K := Int.mul_pos hH hK
  have p1 := mulbd bS gb
  have p2 := mulbd bC jb
  have p3 := mulbd (x := L) (a := n) (by omega) h1
  have p4 := mulbd bC gb
  have p5 := mulbd bS jb
  have p6 := mulbd (x := H) (a := n) (by omega) h1
  have x1 := Int.mul_le_mul_of_nonneg_left hk2 (by omega : 0 ≤ K)
  rw [show 1025 * K * (50 * (n * K)) = 51250 * (K * (n * K)) by grind] at p1 p4
  rw [show 1025 * K * (557 * (H * K)) = 570925 * (K * (H * K)) by grind] at p2 p5
  rw [show n * (87 * (K * K)) = 87 * (K * (n * K)) by grind] at p3 p6
  have k1 : K * (1099511627776 * (S * n - L * K)) * 1024 = -(1024 * S * (1099511627776 * (H * C + L * S - n * K))) + 1024 * C * (1099511627776 * (H * S - L * C)) - 1024 * (L * ((K * K - (C * C + S * S)) * 1099511627776)) := by grind
  have k2 : K * (1099511627776 * (C * n - H * K)) * 1024 = -(1024 * C * (1099511627776 * (H * C + L * S - n * K))) - 1024 * S * (1099511627776 * (H * S - L * C)) - 1024 * (H * ((K * K - (C * C + S * S)) * 1099511627776)) := by grind
  have r : K * (700 * (K * n)) = 700 * (K * (n * K)) := by grind
  generalize 1024 * S * (1099511627776 * (H * C + L * S - n * K)) = a1 at *
  generalize 1024 * C * (1099511627776 * (H * S - L * C)) = a2 at *
  generalize L * ((K * K - (C * C + S * S)) * 1099511627776) = a3 at *
  generalize 1024 * C * (1099511627776 * (H * C + L * S - n * K)) = a4 at *
  generalize 1024 * S * (1099511627776 * (H * S - L * C)) = a5 at *
  generalize H * ((K * K - (C * C + S * S)) * 1099511627776) = a6 at *
  generalize K * (n * K) = X at *
  generalize K * (H * K) = X2 at *
  refine ⟨⟨?_, ?_⟩, ⟨?_, ?_⟩, Hn⟩
  · refine Int.le_of_mul_le_mul_left (a := K) ?_ hK
    rw [Int.mul_neg, r]
    omega
  · refine Int.le_of_mul_le_mul_left (a := K) ?_ hK
    rw [r]
    omega
  · refine Int.le_of_mul_le_mul_left (a := K) ?_ hK
    rw [Int.mul_neg, r]
    omega
  · refine Int.le_of_mul_le_mul_left (a := K) ?_ hK
    rw [r]
    omega
end Go.Proofs.Ytndimdodendonab
