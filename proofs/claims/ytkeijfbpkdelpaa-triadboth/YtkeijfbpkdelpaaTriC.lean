/-
  Two directions that are turned, and their frames: for the seat Ytkeijfbpkdelpaa. No Go text in sight.
-/
import Derived.Test.YtkeijfbpkdelpaaTriB
namespace Go.Proofs.Ytkeijfbpkdelpaa
open Go.RowKit

/-- What two turned units are crossed to, by the lengths. -/
theorem c_turn {x y z s a0 a1 a2 b0 b1 b2 c0 c1 c2 X1 X2 Y1 Y2 C0 nx ny : Int} (U : U4 x y z s) (a1' : Ab (rvc y z x s a1 a2 a0) 1329227996433337848350140484270882816) (a2' : Ab (rvc z x y s a2 a0 a1) 1329227996433337848350140484270882816) (b1' : Ab (rvc y z x s b1 b2 b0) 1329227996433337848350140484270882816) (b2' : Ab (rvc z x y s b2 b0 b1) 1329227996433337848350140484270882816)
    (hx1 : Ab (1099511627776 * nx * X1 - rvc y z x s a1 a2 a0) 26596368031521841843535872) (hx2 : Ab (1099511627776 * nx * X2 - rvc z x y s a2 a0 a1) 26596368031521841843535872) (hy1 : Ab (1099511627776 * ny * Y1 - rvc y z x s b1 b2 b0) 26596368031521841843535872) (hy2 : Ab (1099511627776 * ny * Y2 - rvc z x y s b2 b0 b1) 26596368031521841843535872)
    (hnx : Ab nx 1099511628808) (hny : Ab ny 1099511628808) (hC : Ab (C0 * 1099511627776 - (X1 * Y2 - X2 * Y1)) 1099511627776)
    (e0 : Ab (c0 * 1099511627776 - (a1 * b2 - a2 * b1)) 1099511627776) (e1 : Ab (c1 * 1099511627776 - (a2 * b0 - a0 * b2)) 1099511627776) (e2 : Ab (c2 * 1099511627776 - (a0 * b1 - a1 * b0)) 1099511627776) :
    Ab (1208925819614629174706176 * (nx * ny) * C0 - (x * x + y * y + z * z + s * s) * rvc x y z s c0 c1 c2) 138842655546435777229350059108046886867313591582720 := by
  have k := rvc_cross x y z s a0 a1 a2 b0 b1 b2
  have r := rvc_sub x y z s (c0 * 1099511627776) (c1 * 1099511627776) (c2 * 1099511627776) (a1 * b2 - a2 * b1) (a2 * b0 - a0 * b2) (a0 * b1 - a1 * b0)
  have r2 := rvc_mul x y z s c0 c1 c2 1099511627776
  rw [Int.mul_comm 1099511627776 c0, Int.mul_comm 1099511627776 c1, Int.mul_comm 1099511627776 c2] at r2
  rw [r2] at r
  have sm := rvc_small U e0 e1 e2
  have ce := cross_err a1' a2' b1' b2' hx1 hx2 hy1 hy2
  have Dd : Ab (x * x + y * y + z * z + s * s) 1208925819628922825867264 := ⟨by have := U.len.lo; omega, by have := U.len.hi; omega⟩
  have b := (((Ab.one80.mul (hnx.mul hny)).mul hC).add ce).sub (Dd.mul sm)
  rw [r] at b
  generalize x * x + y * y + z * z + s * s = D at *
  generalize rvc y z x s a1 a2 a0 = RA1 at *
  generalize rvc z x y s a2 a0 a1 = RA2 at *
  generalize rvc y z x s b1 b2 b0 = RB1 at *
  generalize rvc z x y s b2 b0 b1 = RB2 at *
  generalize rvc x y z s (a1 * b2 - a2 * b1) (a2 * b0 - a0 * b2) (a0 * b1 - a1 * b0) = RX at *
  generalize rvc x y z s c0 c1 c2 = RC at *
  have id : 1208925819614629174706176 * (nx * ny) * (C0 * 1099511627776 - (X1 * Y2 - X2 * Y1)) + (1099511627776 * nx * X1 * (1099511627776 * ny * Y2) - 1099511627776 * nx * X2 * (1099511627776 * ny * Y1) - (RA1 * RB2 - RA2 * RB1)) - D * (1099511627776 * RC - RX) = 1099511627776 * (1208925819614629174706176 * (nx * ny) * C0 - D * RC) := by rw [k]; grind
  rw [id] at b
  have := b.lo; have := b.hi
  constructor <;> omega
/-- The unit of that. -/
theorem v_turn {x y z s c0 c1 c2 v0 v1 v2 C0 V0 n n' k : Int} (U : U4 x y z s) (h : Ab (1208925819614629174706176 * k * C0 - (x * x + y * y + z * z + s * s) * rvc x y z s c0 c1 c2) 138842655546435777229350059108046886867313591582720) (hk : Ab k (1099511628808 * 1099511628808)) (hn : n ≤ 1099511627808) (hn0 : 0 ≤ n) (hn' : n' ≤ 1099511627808) (hV : Uof V0 C0 n') (hv0 : Uof v0 c0 n) (hv1 : Uof v1 c1 n) (hv2 : Uof v2 c2 n) :
    Ab (1208925819614629174706176 * k * n' * V0 - (x * x + y * y + z * z + s * s) * n * rvc x y z s v0 v1 v2) 159086866381640037278654247141775097649698096384496490694836224 := by
  have r := rvc_sub x y z s (n * v0) (n * v1) (n * v2) (1099511627776 * c0) (1099511627776 * c1) (1099511627776 * c2)
  rw [rvc_mul, rvc_mul] at r
  have w0 : Ab (n * v0 - 1099511627776 * c0) 1099511627808 := by have := hv0.up; have := hv0.dn; rw [Int.mul_comm n v0]; constructor <;> omega
  have w1 : Ab (n * v1 - 1099511627776 * c1) 1099511627808 := by have := hv1.up; have := hv1.dn; rw [Int.mul_comm n v1]; constructor <;> omega
  have w2 : Ab (n * v2 - 1099511627776 * c2) 1099511627808 := by have := hv2.up; have := hv2.dn; rw [Int.mul_comm n v2]; constructor <;> omega
  have sm := rvc_small U w0 w1 w2
  rw [r] at sm
  have Dd : Ab (x * x + y * y + z * z + s * s) 1208925819628922825867264 := ⟨by have := U.len.lo; omega, by have := U.len.hi; omega⟩
  have hV' := (uof_ab hV).le hn'
  have b := (((Ab.one80.mul hk).mul hV').add (Ab.two.mul (Ab.one40.mul h))).sub (Ab.two.mul (Dd.mul sm))
  generalize x * x + y * y + z * z + s * s = D at *
  generalize rvc x y z s c0 c1 c2 = RC at *
  generalize rvc x y z s v0 v1 v2 = RV at *
  have id : 1208925819614629174706176 * k * (2 * (V0 * n' - C0 * 1099511627776)) + 2 * (1099511627776 * (1208925819614629174706176 * k * C0 - D * RC)) - 2 * (D * (n * RV - 1099511627776 * RC)) = 2 * (1208925819614629174706176 * k * n' * V0 - D * n * RV) := by grind
  rw [id] at b
  have := b.lo; have := b.hi
  constructor <;> omega
/-- What comes upright to both. -/
theorem w_turn {x y z s a0 a1 a2 v0 v1 v2 w0 w1 w2 X1 X2 V1 V2 W0 nx k n n' : Int} (U : U4 x y z s) (a1' : Ab (rvc y z x s a1 a2 a0) 1329227996433337848350140484270882816) (a2' : Ab (rvc z x y s a2 a0 a1) 1329227996433337848350140484270882816) (v1' : Ab (rvc y z x s v1 v2 v0) 1329227996433337848350140484270882816) (v2' : Ab (rvc z x y s v2 v0 v1) 1329227996433337848350140484270882816)
    (hx1 : Ab (1099511627776 * nx * X1 - rvc y z x s a1 a2 a0) 26596368031521841843535872) (hx2 : Ab (1099511627776 * nx * X2 - rvc z x y s a2 a0 a1) 26596368031521841843535872)
    (hv1 : Ab (1208925819614629174706176 * k * n' * V1 - (x * x + y * y + z * z + s * s) * n * rvc y z x s v1 v2 v0) 159086866381640037278654247141775097649698096384496490694836224) (hv2 : Ab (1208925819614629174706176 * k * n' * V2 - (x * x + y * y + z * z + s * s) * n * rvc z x y s v2 v0 v1) 159086866381640037278654247141775097649698096384496490694836224)
    (hnx : Ab nx 1099511628808) (hk : Ab k (1099511628808 * 1099511628808)) (hn : Ab n 1099511627808) (hn' : Ab n' 1099511627808) (hW : Ab (1099511627776 * W0 - (X1 * V2 - X2 * V1)) 1099511627776)
    (o0 : Ab (1099511627776 * w0 - (a1 * v2 - a2 * v1)) 1099511627776) (o1 : Ab (1099511627776 * w1 - (a2 * v0 - a0 * v2)) 1099511627776) (o2 : Ab (1099511627776 * w2 - (a0 * v1 - a1 * v0)) 1099511627776) :
    Ab (1461501637330902918203684832716283019655932542976 * (nx * k * n') * W0 - 1099511627776 * (x * x + y * y + z * z + s * s) * ((x * x + y * y + z * z + s * s) * n) * rvc x y z s w0 w1 w2) 529724784908385700433965383130048924421470721544449886946866318739910491993598856405694597560270848 := by
  have c := rvc_cross x y z s a0 a1 a2 v0 v1 v2
  have r := rvc_sub x y z s (1099511627776 * w0) (1099511627776 * w1) (1099511627776 * w2) (a1 * v2 - a2 * v1) (a2 * v0 - a0 * v2) (a0 * v1 - a1 * v0)
  rw [rvc_mul] at r
  have sm := rvc_small U o0 o1 o2
  rw [r] at sm
  have Dd : Ab (x * x + y * y + z * z + s * s) 1208925819628922825867264 := ⟨by have := U.len.lo; omega, by have := U.len.hi; omega⟩
  have ce := cross_err a1' a2' ((Dd.mul hn).mul v1') ((Dd.mul hn).mul v2') hx1 hx2 hv1 hv2
  have b := (((⟨by decide, by decide⟩ : Ab 1329227995784915872903807060280344576 1329227995784915872903807060280344576).mul ((hnx.mul hk).mul hn')).mul hW).add ce |>.sub ((Dd.mul (Dd.mul hn)).mul sm)
  generalize x * x + y * y + z * z + s * s = D at *
  generalize rvc y z x s a1 a2 a0 = RA1 at *
  generalize rvc z x y s a2 a0 a1 = RA2 at *
  generalize rvc y z x s v1 v2 v0 = RV1 at *
  generalize rvc z x y s v2 v0 v1 = RV2 at *
  generalize rvc x y z s (a1 * v2 - a2 * v1) (a2 * v0 - a0 * v2) (a0 * v1 - a1 * v0) = RX at *
  generalize rvc x y z s w0 w1 w2 = RW at *
  have id : 1329227995784915872903807060280344576 * (nx * k * n') * (1099511627776 * W0 - (X1 * V2 - X2 * V1)) + (1099511627776 * nx * X1 * (1208925819614629174706176 * k * n' * V2) - 1099511627776 * nx * X2 * (1208925819614629174706176 * k * n' * V1) - (RA1 * (D * n * RV2) - RA2 * (D * n * RV1))) - D * (D * n) * (1099511627776 * RW - RX) = 1461501637330902918203684832716283019655932542976 * (nx * k * n') * W0 - 1099511627776 * D * (D * n) * RW := by
    have c2 : RA1 * (D * n * RV2) - RA2 * (D * n * RV1) = D * n * (D * RX) := by rw [← c]; grind
    rw [c2]; grind
  rw [id] at b
  exact b.le (by decide)
/-- Two that are nearly one direction, crossed. -/
theorem along_cross {K L X1 X2 R1 R2 E B c F : Int} (e1 : Ab (K * X1 - L * R1) E) (e2 : Ab (K * X2 - L * R2) E) (h1 : Ab R1 B) (h2 : Ab R2 B) (hc : 0 < c) (hK : c ≤ K) (hF : 2 * (E * B) < c * (F + 1)) (hF0 : 0 ≤ F) : Ab (X1 * R2 - X2 * R1) F := by
  have id : K * (X1 * R2 - X2 * R1) = (K * X1 - L * R1) * R2 - (K * X2 - L * R2) * R1 := by grind
  have b := (e1.mul h2).sub (e2.mul h1)
  rw [← id] at b
  generalize X1 * R2 - X2 * R1 = Q at *
  have bl := b.lo
  have bh := b.hi
  generalize E * B = EB at *
  have g := Int.mul_le_mul_of_nonneg_right hK (by omega : 0 ≤ F + 1)
  constructor
  · by_cases q : -F ≤ Q
    · exact q
    · have := Int.mul_le_mul_of_nonneg_left (by omega : Q ≤ -(F + 1)) (by omega : 0 ≤ K)
      have e : K * -(F + 1) = -(K * (F + 1)) := Int.mul_neg _ _
      rw [e] at this
      generalize K * (F + 1) = KF at *
      generalize c * (F + 1) = cF at *
      omega
  · by_cases q : Q ≤ F
    · exact q
    · have := Int.mul_le_mul_of_nonneg_left (by omega : F + 1 ≤ Q) (by omega : 0 ≤ K)
      generalize K * (F + 1) = KF at *
      generalize c * (F + 1) = cF at *
      omega
/-- ... and how far they go one way. -/
theorem along_dot {K L X0 X1 X2 R0 R1 R2 E B : Int} (e0 : Ab (K * X0 - L * R0) E) (e1 : Ab (K * X1 - L * R1) E) (e2 : Ab (K * X2 - L * R2) E) (h0 : Ab R0 B) (h1 : Ab R1 B) (h2 : Ab R2 B) :
    L * (R0 * R0 + R1 * R1 + R2 * R2) - 3 * (E * B) ≤ K * (X0 * R0 + X1 * R1 + X2 * R2) := by
  have id : K * (X0 * R0 + X1 * R1 + X2 * R2) = L * (R0 * R0 + R1 * R1 + R2 * R2) + ((K * X0 - L * R0) * R0 + (K * X1 - L * R1) * R1 + (K * X2 - L * R2) * R2) := by grind
  have b := ((e0.mul h0).add (e1.mul h1)).add (e2.mul h2)
  rw [id]
  have := b.lo
  generalize E * B = EB at *
  omega
end Go.Proofs.Ytkeijfbpkdelpaa
