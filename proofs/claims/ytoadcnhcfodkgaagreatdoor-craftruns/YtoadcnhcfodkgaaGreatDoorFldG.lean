/-
  The field up, south and east, as rounded steps add it up: near what its sums are, for the seat YtoadcnhcfodkgaaGreatDoor. No Go text in sight.
-/
import Derived.Test.YtoadcnhcfodkgaaGreatDoorFldF
namespace Go.Proofs.YtoadcnhcfodkgaaGreatDoor

theorem tri_zero (c s : Int) : ∀ n m, n < m → tri c s n m = (0, 0, 0)
  | 0, m, h => by unfold tri; rw [if_neg (by omega)]
  | 1, m, h => by unfold tri; rw [if_neg (by omega), if_neg (by omega)]
  | n + 2, m, h => by unfold tri; rw [if_neg (by omega), if_neg (by omega)]
theorem sm_cut {f : Nat → Int} {a : Nat} (h : ∀ k, a ≤ k → f k = 0) : ∀ b, sm f (a + b) = sm f a
  | 0 => rfl
  | b + 1 => by show sm f (a + b) + f (a + b) = _; rw [sm_cut h b, h (a + b) (by omega)]; omega
section
variable (c s q y u v : Int)
/-- What the field is behind so many orders of degree n. -/
def innS (n : Nat) (st : V3) : Nat → V3
  | 0 => st
  | m + 1 => (termS false n m (tS q n) (wv u v m).1 (wv u v m).2 (gS y n m) (hS y n m) (tri c s n m) (innS n st m)).1
/-- What the field is behind so many degrees. -/
def outS : Nat → V3
  | 0 => (0, 0, 0)
  | k + 1 => innS c s q y u v (k + 1) (outS k) (k + 2)
end
/-- All that the sums are worked of. -/
structure Sums (C S Q : Iv) (c s q y u v : Int) : Prop where
  L : Lies C S Q c s q
  y0 : 0 ≤ y
  y1 : y ≤ 5497558138880
  W : Lon u v
section
variable {C S Q : Iv} {c s q y u v : Int}
theorem inn_at (Z : Sums C S Q c s q y u v) {k : Nat} (hk : k < 6) {st : V3} {K : Int} (ss : St3 st K) (K0 : 0 ≤ K) (hK : K ≤ 900000000000000000) : ∀ m : Nat, m ≤ k + 2 →
    St3 (innS c s q y u v (k + 1) st m) (K + m * 15769600000000490) ∧
    Ab (1329227995784915872903807060280344576 * ((innS c s q y u v (k + 1) st m).1 - st.1) - sm (fun j => wU c s q k j * (gS y (k + 1) j * (wv u v j).1 + hS y (k + 1) j * (wv u v j).2)) m) (m * 340282366920938463463374607431768211456) ∧
    Ab (1329227995784915872903807060280344576 * (st.2.1 - (innS c s q y u v (k + 1) st m).2.1) - sm (fun j => wS c s q k j * (gS y (k + 1) j * (wv u v j).1 + hS y (k + 1) j * (wv u v j).2)) m) (m * 340282366920938463463374607431768211456) ∧
    Ab (1329227995784915872903807060280344576 * ((innS c s q y u v (k + 1) st m).2.2 - st.2.2) - sm (fun j => wE c s q k j * (gS y (k + 1) j * (wv u v j).2 - hS y (k + 1) j * (wv u v j).1)) m) (m * 340282366920938463463374607431768211456)
  | 0, _ => by
    refine ⟨by show St3 st _; simpa using ss, ?_, ?_, ?_⟩
    · show Ab (1329227995784915872903807060280344576 * (st.1 - st.1) - 0) _
      exact ⟨by omega, by omega⟩
    · show Ab (1329227995784915872903807060280344576 * (st.2.1 - st.2.1) - 0) _
      exact ⟨by omega, by omega⟩
    · show Ab (1329227995784915872903807060280344576 * (st.2.2 - st.2.2) - 0) _
      exact ⟨by omega, by omega⟩
  | m + 1, hm => by
    obtain ⟨i1, i2, i3, i4⟩ := inn_at Z hk ss K0 hK m (by omega)
    obtain ⟨_, t0, t1'⟩ := t_at Z.L.q0 Z.L.q1 Z.L.iq (k + 1) (by omega)
    have t1 : tS q (k + 1) ≤ 2199023255552 := Int.le_trans t1' (tB_le _)
    obtain ⟨cb, sb, _, _⟩ := wv_at Z.W m (by omega)
    obtain ⟨s', e, b, f1, f2, f3⟩ := term_at (n := ((k + 1 : Nat) : Int)) (m := (m : Int)) (K := K + m * 15769600000000490) (by omega) (by omega) (by omega) (by omega) t0 t1 cb sb (gS_bd Z.y0 Z.y1 (k + 1) m) (hS_bd Z.y0 Z.y1 (k + 1) m) (Z.L.sm k hk m) i1 (by omega) (by omega)
    have e1 : innS c s q y u v (k + 1) st (m + 1) = s' := by unfold innS; rw [e]
    rw [e1]
    have cst : ((k + 1 : Nat) : Int) + 1 = (k : Int) + 2 := by omega
    rw [cst] at f1
    have mm : ((m + 1 : Nat) : Int) = (m : Int) + 1 := by omega
    rw [mm]
    refine ⟨⟨b.a.le (by omega), b.b.le (by omega), b.c.le (by omega)⟩, ?_, ?_, ?_⟩
    · show Ab (_ - (sm _ m + wU c s q k m * (gS y (k + 1) m * (wv u v m).1 + hS y (k + 1) m * (wv u v m).2))) _
      unfold wU at *
      have := i2.lo; have := i2.hi; have := f1.lo; have := f1.hi
      exact ⟨by omega, by omega⟩
    · show Ab (_ - (sm _ m + wS c s q k m * (gS y (k + 1) m * (wv u v m).1 + hS y (k + 1) m * (wv u v m).2))) _
      unfold wS at *
      have := i3.lo; have := i3.hi; have := f2.lo; have := f2.hi
      exact ⟨by omega, by omega⟩
    · show Ab (_ - (sm _ m + wE c s q k m * (gS y (k + 1) m * (wv u v m).2 - hS y (k + 1) m * (wv u v m).1))) _
      unfold wE at *
      have := i4.lo; have := i4.hi; have := f3.lo; have := f3.hi
      exact ⟨by omega, by omega⟩
theorem out_at (Z : Sums C S Q c s q y u v) : ∀ k : Nat, k ≤ 6 →
    St3 (outS c s q y u v k) (k * 126156800000003920) ∧
    Ab (1329227995784915872903807060280344576 * (outS c s q y u v k).1 - sm (fun n => sm (fun j => wU c s q n j * (gS y (n + 1) j * (wv u v j).1 + hS y (n + 1) j * (wv u v j).2)) 7) k) (k * 2722258935367507707706996859454145691648) ∧
    Ab (1329227995784915872903807060280344576 * -(outS c s q y u v k).2.1 - sm (fun n => sm (fun j => wS c s q n j * (gS y (n + 1) j * (wv u v j).1 + hS y (n + 1) j * (wv u v j).2)) 7) k) (k * 2722258935367507707706996859454145691648) ∧
    Ab (1329227995784915872903807060280344576 * (outS c s q y u v k).2.2 - sm (fun n => sm (fun j => wE c s q n j * (gS y (n + 1) j * (wv u v j).2 - hS y (n + 1) j * (wv u v j).1)) 7) k) (k * 2722258935367507707706996859454145691648)
  | 0, _ => by
    refine ⟨⟨⟨by show (-(0 * 126156800000003920) : Int) ≤ 0; decide, by show (0 : Int) ≤ 0 * 126156800000003920; decide⟩, ⟨by show (-(0 * 126156800000003920) : Int) ≤ 0; decide, by show (0 : Int) ≤ 0 * 126156800000003920; decide⟩, ⟨by show (-(0 * 126156800000003920) : Int) ≤ 0; decide, by show (0 : Int) ≤ 0 * 126156800000003920; decide⟩⟩, ?_, ?_, ?_⟩
    · show Ab (1329227995784915872903807060280344576 * 0 - 0) _
      exact ⟨by omega, by omega⟩
    · show Ab (1329227995784915872903807060280344576 * -0 - 0) _
      exact ⟨by omega, by omega⟩
    · show Ab (1329227995784915872903807060280344576 * 0 - 0) _
      exact ⟨by omega, by omega⟩
  | k + 1, hk => by
    obtain ⟨s0, o1, o2, o3⟩ := out_at Z k (by omega)
    obtain ⟨i1, i2, i3, i4⟩ := inn_at Z (show k < 6 by omega) s0 (by omega) (by omega) (k + 2) (Nat.le_refl _)
    have e1 : outS c s q y u v (k + 1) = innS c s q y u v (k + 1) (outS c s q y u v k) (k + 2) := by rw [outS]
    have z (j : Nat) (h : k + 2 ≤ j) : tri c s (k + 1) j = (0, 0, 0) := tri_zero c s (k + 1) j (by omega)
    have c1 := sm_cut (f := fun j => wU c s q k j * (gS y (k + 1) j * (wv u v j).1 + hS y (k + 1) j * (wv u v j).2)) (a := k + 2) (fun j h => by show wU c s q k j * _ = 0; unfold wU; rw [z j h]; simp) (5 - k)
    have c2 := sm_cut (f := fun j => wS c s q k j * (gS y (k + 1) j * (wv u v j).1 + hS y (k + 1) j * (wv u v j).2)) (a := k + 2) (fun j h => by show wS c s q k j * _ = 0; unfold wS; rw [z j h]; simp) (5 - k)
    have c3 := sm_cut (f := fun j => wE c s q k j * (gS y (k + 1) j * (wv u v j).2 - hS y (k + 1) j * (wv u v j).1)) (a := k + 2) (fun j h => by show wE c s q k j * _ = 0; unfold wE; rw [z j h]; simp) (5 - k)
    rw [show k + 2 + (5 - k) = 7 by omega] at c1 c2 c3
    rw [e1]
    have kk : ((k + 2 : Nat) : Int) ≤ 8 := by omega
    have k1 : ((k + 1 : Nat) : Int) = (k : Int) + 1 := by omega
    have k2 : ((k + 2 : Nat) : Int) = (k : Int) + 2 := by omega
    rw [k2] at i1 i2 i3 i4
    rw [k1]
    refine ⟨⟨i1.a.le (by omega), i1.b.le (by omega), i1.c.le (by omega)⟩, ?_, ?_, ?_⟩
    · show Ab (_ - (sm _ k + sm (fun j => wU c s q k j * (gS y (k + 1) j * (wv u v j).1 + hS y (k + 1) j * (wv u v j).2)) 7)) _
      rw [c1]
      have := i2.lo; have := i2.hi; have := o1.lo; have := o1.hi
      exact ⟨by omega, by omega⟩
    · show Ab (_ - (sm _ k + sm (fun j => wS c s q k j * (gS y (k + 1) j * (wv u v j).1 + hS y (k + 1) j * (wv u v j).2)) 7)) _
      rw [c2]
      have := i3.lo; have := i3.hi; have := o2.lo; have := o2.hi
      exact ⟨by omega, by omega⟩
    · show Ab (_ - (sm _ k + sm (fun j => wE c s q k j * (gS y (k + 1) j * (wv u v j).2 - hS y (k + 1) j * (wv u v j).1)) 7)) _
      rw [c3]
      have := i4.lo; have := i4.hi; have := o3.lo; have := o3.hi
      exact ⟨by omega, by omega⟩
/-- Each step of the sums is good. -/
theorem step_good (Z : Sums C S Q c s q y u v) {k m : Nat} (hk : k < 6) (hm : m < k + 2) :
    termS false ((k + 1 : Nat) : Int) m (tS q (k + 1)) (wv u v m).1 (wv u v m).2 (gS y (k + 1) m) (hS y (k + 1) m) (tri c s (k + 1) m) (innS c s q y u v (k + 1) (outS c s q y u v k) m) = (innS c s q y u v (k + 1) (outS c s q y u v k) (m + 1), false) := by
  obtain ⟨s0, _, _, _⟩ := out_at Z k (by omega)
  obtain ⟨i1, _, _, _⟩ := inn_at Z hk s0 (by omega) (by omega) m (by omega)
  obtain ⟨_, t0, t1'⟩ := t_at Z.L.q0 Z.L.q1 Z.L.iq (k + 1) (by omega)
  have t1 : tS q (k + 1) ≤ 2199023255552 := Int.le_trans t1' (tB_le _)
  obtain ⟨cb, sb, _, _⟩ := wv_at Z.W m (by omega)
  obtain ⟨s', e, _, _, _, _⟩ := term_at (n := ((k + 1 : Nat) : Int)) (m := (m : Int)) (by omega) (by omega) (by omega) (by omega) t0 t1 cb sb (gS_bd Z.y0 Z.y1 (k + 1) m) (hS_bd Z.y0 Z.y1 (k + 1) m) (Z.L.sm k hk m) i1 (by omega) (by omega)
  rw [e, show innS c s q y u v (k + 1) (outS c s q y u v k) (m + 1) = s' by (conv => lhs; unfold innS); rw [e]]
end
end Go.Proofs.YtoadcnhcfodkgaaGreatDoor
