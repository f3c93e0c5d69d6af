/-
  The angle that the arc's series comes to: its tangent is what the series was worked of, for the seat Ytndimdodendonab. No Go text in sight.
-/
import Derived.Test.YtndimdodendonabTArcN
namespace Go.Proofs.Ytndimdodendonab

/-! ### Products of polynomials, and one put into another -/
def pmul : List Int → List Int → List Int
  | [], _ => []
  | a :: l, m => padd (pscale a m) (0 :: pmul l m)
def pcomp : List Int → List Int → List Int
  | [], _ => []
  | c :: l, m => padd [c] (pmul m (pcomp l m))
theorem evp_pmul : ∀ (l m : List Int) (x : Int), evp (pmul l m) x = evp l x * evp m x
  | [], m, x => by simp [pmul, evp]
  | a :: l, m, x => by
    simp only [pmul, evp]
    rw [evp_padd, evp_scale]
    simp only [evp]
    rw [evp_pmul l m x]
    grind
theorem evp_pcomp : ∀ (l m : List Int) (x : Int), evp (pcomp l m) x = evp l (evp m x)
  | [], m, x => by simp [pcomp, evp]
  | c :: l, m, x => by
    simp only [pcomp, evp]
    rw [evp_padd, evp_pmul, evp_pcomp l m x]
    simp only [evp]
    omega
/-- How much a polynomial grows. -/
theorem lips (l : List Int) (x d : Int) : evp l (x + d) = evp l x + d * ev2 (comp l).tail x d := by
  have h1 := ev2_comp l x d
  have h0 := ev2_comp l x 0
  rw [Int.add_zero] at h0
  rw [← h1, ← h0]
  cases comp l with
  | nil => simp [ev2]
  | cons a L =>
    simp only [ev2, List.tail_cons]
    omega

/-! ### Short series, in units of o -/
def l9s (o : Int) : List Int := [0, 362880 * o ^ 8, 0, -60480 * o ^ 6, 0, 3024 * o ^ 4, 0, -72 * o ^ 2, 0, 1]
def l9c (o : Int) : List Int := [362880 * o ^ 9, 0, -181440 * o ^ 7, 0, 15120 * o ^ 5, 0, -504 * o ^ 3, 0, 9 * o]
theorem hom_s (o q x : Int) : evp (l9s (o * q)) (x * q) = q ^ 9 * evp (l9s o) x := by
  simp only [l9s, evp]
  grind
theorem hom_c (o q x : Int) : evp (l9c (o * q)) (x * q) = q ^ 9 * evp (l9c o) x := by
  simp only [l9c, evp]
  grind
def lZ : List Int := 0 :: inter (aL 13)
theorem lZ_eq (t : Int) : evp lZ t = t * aW t := by
  unfold lZ aW
  simp only [evp]
  rw [evp_inter]
  omega
def oq : Int := 1099511627776 * aQ
def k9 : Int := 362880 * 1099511627776 ^ 9
def k9q : Int := 362880 * oq ^ 9
theorem k9_pos : 0 < k9 := by decide +kernel
theorem k9q_eq : k9q = aQ ^ 9 * k9 := by
  unfold k9q oq k9
  rw [Int.mul_pow]
  generalize (1099511627776 : Int) ^ 9 = a
  generalize aQ ^ 9 = b
  grind
def lG : List Int := padd (pscale 1099511627776 (pcomp (l9s oq) lZ)) (pscale (-1) (0 :: pcomp (l9c oq) lZ))
theorem lG_eq (t : Int) : evp lG t = 1099511627776 * evp (l9s oq) (evp lZ t) - t * evp (l9c oq) (evp lZ t) := by
  unfold lG
  rw [evp_padd, evp_scale, evp_scale, evp_pcomp]
  simp only [evp]
  rw [evp_pcomp]
  grind
theorem lG_small : evp (absl lG) 274877906945 ≤ k9q := by decide +kernel
theorem lZ_small : evp (absl lZ) 274877906945 ≤ 285000000000 * aQ := by decide +kernel
theorem lips_s : 1099511627776 * (2 * aQ * ev2 (absl2 (comp (l9s oq)).tail) (285000000000 * aQ) (2 * aQ)) ≤ 3 * k9q := by decide +kernel
theorem lips_c : 274877906945 * (2 * aQ * ev2 (absl2 (comp (l9c oq)).tail) (285000000000 * aQ) (2 * aQ)) ≤ k9q := by decide +kernel
theorem far_s : 1099511627776 * evp (absl (padd (pscale kk (l9s 1099511627776)) (pscale (-k9) lS))) 290000000000 ≤ kk * k9 := by decide +kernel
theorem far_c : 274877906945 * evp (absl (padd (pscale kk (l9c 1099511627776)) (pscale (-k9) lC))) 290000000000 ≤ kk * k9 := by decide +kernel
end Go.Proofs.Ytndimdodendonab
