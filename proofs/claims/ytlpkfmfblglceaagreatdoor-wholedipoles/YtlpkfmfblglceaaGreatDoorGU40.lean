/- A part. -/
import Derived.Test.YtlpkfmfblglceaaGreatDoorGU37
namespace Go.Proofs.YtlpkfmfblglceaaGreatDoor
open Go.RowKit
def dipY (m md : Int) (A C : Prop) : Prop := vif (!decide (m = 0)) (vif (!decide (md = 0)) A C) C
def dipZ (m r md : Int) (A C : Prop) : Prop := vif (decide (m < 0)) (vif (decide (r < 0)) A (dipY m md A C)) (dipY m md A C)
def dipX (m r md : Int) (A C : Prop) : Prop := vif (decide (m > 2000)) A (vif (decide (m < -2000)) A (vif (decide (m > 0)) (vif (decide (r > 0)) A (dipZ m r md A C)) (dipZ m r md A C)))
structure DipAt (m r md : Int) : Prop where
 hi : m ≤ 2000
 lo : -2000 ≤ m
 up : 0 < m → r ≤ 0
 dn : m < 0 → 0 ≤ r
 md : m ≠ 0 → md = 0
theorem dipX_of {m r md : Int} {A C : Prop} (h : DipAt m r md) (hC : C) : dipX m r md A C := by
 have hy : dipY m md A C := by
  unfold dipY
  by_cases k : m = 0
  ·rw [decide_eq_true k]; exact hC
  ·rw [decide_eq_false k, decide_eq_true (h.md k)]; exact hC
 have hz : dipZ m r md A C := by
  unfold dipZ
  by_cases k : m < 0
  ·rw [decide_eq_true k, decide_eq_false (by have := h.dn k; omega)]; exact hy
  ·rw [decide_eq_false k]; exact hy
 unfold dipX
 have h1 := h.hi
 have h2 := h.lo
 rw [decide_eq_false (by omega : ¬ m > 2000), decide_eq_false (by omega : ¬ m < -2000)]
 by_cases k : m > 0
 ·rw [decide_eq_true k, decide_eq_false (by have := h.up k; omega)]; exact hz
 ·rw [decide_eq_false k]; exact hz
def DipHeld (_ d : Cra) (T : Tel) (_ : ByteArray) : Prop :=
 DipAt T.2.2.2.2.2.2.2.2.2.2.1 (cDrif d).2.2.2.2.2.1 (cPlan d).1 ∧ DipAt T.2.2.2.2.2.2.2.2.2.2.2.1 (cDrif d).2.2.2.2.2.2.1 (cPlan d).1 ∧ DipAt T.2.2.2.2.2.2.2.2.2.2.2.2.1 (cDrif d).2.2.2.2.2.2.2.1 (cPlan d).1
def dpK : List Nat := [5, 13, 14]
def dpF (T : Tel) (i : Int) (d : Nat → Value) : List Value := frm [(5, ptr 1), (13, .agg #[.int .i64 T.2.2.2.2.2.2.2.2.2.2.1, .int .i64 T.2.2.2.2.2.2.2.2.2.2.2.1, .int .i64 T.2.2.2.2.2.2.2.2.2.2.2.2.1]), (14, .int .i64 i)] d 56
def dpE (T : Tel) (d : Nat → Value) : List Value := vset ((dpF T 3 d).set 15 (.bool false)) (.tmp 15) false
def dpM (c e : Cra) (T : Tel) : Xm := [dCra.enc c, dCra.enc e, tEnc 13 T]
def dpO : Ov := fun id => match id with
 | 1 => some (cutBy Tryz.prog [] (fun _ => []) 1 dpK 56 3)
 | 7 => some (cutBy Tryz.prog [] (fun _ => []) 7 dpK 56 3)
 | _ => none
def dpB (P : Program) : Code := cpart [true, false, true] (bodyOf P 11)
def dpL (P : Program) : Code := cpart [false, false] (dpB P)
def dpZ (P : Program) : Code := cpart [true, true] (bodyOf P 11)
def dpN (T : Tel) (i : Int) (Q : VQ) (m : Xm) : Prop := 56 = 56 ∧ true = true ∧ ∀ d, Q .normal (dpF T i d) m
set_option maxRecDepth 100000 in
theorem dp_round0 (n : Nat) (c e : Cra) (T : Tel) (d : Nat → Value) (Post : Value → Prop) (Q : VQ) : swpO Tryz.prog [] (fun _ => []) n dpO (dpL Tryz.prog) (retOf Tryz.prog (fnOf Tryz.prog 11) Post Q) (dpF T 0 d) (dpM c e T) = dipX T.2.2.2.2.2.2.2.2.2.2.1 (cDrif e).2.2.2.2.2.1 (cPlan e).1 (Post (.bool false)) (dpN T 1 Q (dpM c e T)) := by kernel_rfl
set_option maxRecDepth 100000 in
theorem dp_round1 (n : Nat) (c e : Cra) (T : Tel) (d : Nat → Value) (Post : Value → Prop) (Q : VQ) : swpO Tryz.prog [] (fun _ => []) n dpO (dpL Tryz.prog) (retOf Tryz.prog (fnOf Tryz.prog 11) Post Q) (dpF T 1 d) (dpM c e T) = dipX T.2.2.2.2.2.2.2.2.2.2.2.1 (cDrif e).2.2.2.2.2.2.1 (cPlan e).1 (Post (.bool false)) (dpN T 2 Q (dpM c e T)) := by kernel_rfl
set_option maxRecDepth 100000 in
theorem dp_round2 (n : Nat) (c e : Cra) (T : Tel) (d : Nat → Value) (Post : Value → Prop) (Q : VQ) : swpO Tryz.prog [] (fun _ => []) n dpO (dpL Tryz.prog) (retOf Tryz.prog (fnOf Tryz.prog 11) Post Q) (dpF T 2 d) (dpM c e T) = dipX T.2.2.2.2.2.2.2.2.2.2.2.2.1 (cDrif e).2.2.2.2.2.2.2.1 (cPlan e).1 (Post (.bool false)) (dpN T 3 Q (dpM c e T)) := by kernel_rfl
set_option maxRecDepth 100000 in
theorem dp_last (n : Nat) (c e : Cra) (T : Tel) (d : Nat → Value) (Post : Value → Prop) (Q : VQ) : swpO Tryz.prog [] (fun _ => []) n dpO (dpL Tryz.prog) (retOf Tryz.prog (fnOf Tryz.prog 11) Post Q) (dpF T 3 d) (dpM c e T) = Q (.exit 0) (dpE T d) (dpM c e T) := by kernel_rfl
set_option maxRecDepth 100000 in
theorem dp_end (n : Nat) (c e : Cra) (T : Tel) (d : Nat → Value) (Post : Value → Prop) : swpO Tryz.prog [] (fun _ => []) n dpO (dpZ Tryz.prog) (retQ Tryz.prog (fnOf Tryz.prog 11) (fun v _ => Post v)) (dpE T d) (dpM c e T) = Post (.bool true) := by kernel_rfl
def dpQ (n : Nat) (Q : VQ) : VQ := fun e vt m => match e with
 | .normal => swpO Tryz.prog [] (fun _ => []) n dpO (dpZ Tryz.prog) Q vt m
 | e => Q e vt m
def dpQ0 (n : Nat) (Q : VQ) : VQ := fun e vt m => match e with
 | .exit id' => if id' = 0 then dpQ n Q .normal vt m else dpQ n Q (.exit id') vt m
 | e => dpQ n Q e vt m
set_option maxRecDepth 100000 in
theorem dp_start (n : Nat) (c e : Cra) (T : Tel) (b : ByteArray) (Q : VQ) : swpO Tryz.prog [] (fun _ => []) n dpO (bodyOf Tryz.prog 11) Q ((then' cCra (then' cCra (then' (cT 13) (lone' cS)))).enc (c, e, T, b) ++ List.replicate ((fnOf Tryz.prog 11).ntmps - ((then' cCra (then' cCra (then' (cT 13) (lone' cS)))).enc (c, e, T, b)).length) undef) [] =
    (56 = 56 ∧ true = true ∧ ∀ d, loopN n (swpO Tryz.prog [] (fun _ => []) n dpO (dpL Tryz.prog)) (dpQ0 n Q) (dpF T 0 d) (dpM c e T)) := by kernel_rfl
theorem cut_ov {P : Program} {tbl : List (Ct P)} {dirty : Nat → List Nat} (hm : P.follows .mixedOrders = true) {f n k : Nat} {ks : List Nat} {ov : Ov} {w : World} (h : ∀ id R, ov id = some R → R = cutBy P tbl dirty id ks n k) : OvOk P ov [] w [] [] (bodyOf P f) :=
 ovOk_of _ fun r _ R hR K Q bl vt m a w hk hr hK => by
  obtain rfl := h _ _ hR
  exact cutBy_sound hm (Nat.zero_le _) hk hr hK
theorem dpO_is (id : Nat) (R) (h : dpO id = some R) : R = cutBy Tryz.prog [] (fun _ => []) id dpK 56 3 := by
 unfold dpO at h
 split at h
 ·exact (Option.some.inj h).symm
 ·exact (Option.some.inj h).symm
 ·cases h
theorem dp_loop {G : VQ → List Value → Xm → Prop} {P : Program} {fn : Func} {Post : Value → Prop} {T : Tel} {m : Xm} {i j : Int} {X : Prop → Prop} (hG : ∀ d Q, G (retOf P fn Post Q) (dpF T i d) m = X (dpN T j Q m)) (hX : ∀ C : Prop, C → X C) {k : Nat} {Q : VQ} (h : ∀ d, loopN k G (retOf P fn Post Q) (dpF T j d) m) (d : Nat → Value) : loopN (k + 1) G (retOf P fn Post Q) (dpF T i d) m := by
 rw [loop_ret, hG]
 exact hX _ ⟨rfl, rfl, h⟩
set_option maxRecDepth 100000 in
theorem dipoles1_ok : HeldOk 11 DipHeld := by
 intro c e T b hH w hw
 refine pure_atO (d := then' cCra (then' cCra (then' (cT 13) (lone' cS)))) (k := cB) (x := (c, e, T, b)) (y := true) (tbl := []) (dirty := fun _ => []) (n := 4) (ov := dpO) xmixA (by kernel_rfl) (by kernel_rfl) (fun _ => cut_ov xmixA dpO_is) ?_ w hw
 rw [dp_start]
 refine ⟨rfl, rfl, fun d => ?_⟩
 have er : dpQ0 4 (retQ Tryz.prog (fnOf Tryz.prog 11) (fun v _ => v = cB.enc true)) = retOf Tryz.prog (fnOf Tryz.prog 11) (fun v => v = cB.enc true) (dpQ0 4 (retQ Tryz.prog (fnOf Tryz.prog 11) (fun v _ => v = cB.enc true))) := by
  funext e vt m
  cases e <;> rfl
 rw [er]
 refine dp_loop (j := 1) (fun d Q => dp_round0 4 c e T d _ Q) (fun C hC => dipX_of hH.1 hC) (fun d => ?_) d
 refine dp_loop (j := 2) (fun d Q => dp_round1 4 c e T d _ Q) (fun C hC => dipX_of hH.2.1 hC) (fun d => ?_) d
 refine dp_loop (j := 3) (fun d Q => dp_round2 4 c e T d _ Q) (fun C hC => dipX_of hH.2.2 hC) (fun d => ?_) d
 rw [loop_ret, dp_last]
 exact Eq.mpr (dp_end 4 c e T d (fun v => v = cB.enc true)) rfl
end Go.Proofs.YtlpkfmfblglceaaGreatDoor
