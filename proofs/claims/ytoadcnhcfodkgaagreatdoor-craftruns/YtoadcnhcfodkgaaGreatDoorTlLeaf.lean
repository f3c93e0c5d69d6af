/-
  Telem: the small functions, walked, for the seat YtoadcnhcfodkgaaGreatDoor. (Made by mktl.py.)
-/
import Derived.Test.YtoadcnhcfodkgaaGreatDoorTlM
import Derived.Test.YtoadcnhcfodkgaaGreatDoorCCDays
import Derived.Test.YtoadcnhcfodkgaaGreatDoorCDDays
import Derived.Test.YtoadcnhcfodkgaaGreatDoorVLoop
import Derived.Handy
namespace Go.Proofs.YtoadcnhcfodkgaaGreatDoor
open Go.RowKit

set_option maxHeartbeats 2000000 in
set_option maxRecDepth 100000 in
theorem within_any (n a b : Int) (w : World) : Calls Tryz.prog 254 #[.int .i64 n, .int .i64 a, .int .i64 b] w fun e w' => e = .returned (.bool (inR n a b)) ∧ w = w' := by
  by_cases h : a ≤ n
  · have H : Hid (inR n a b = decide (n ≤ b)) := by show _ = _; unfold inR; rw [decide_eq_true h, Bool.true_and]
    go_enter Tryz.func254, Tryz.ntmps254
    go_wp2
    go_ret
    exact ⟨by rw [H.out]; rfl, rfl⟩
  · have H : Hid (inR n a b = false) := by show _ = _; unfold inR; rw [decide_eq_false h, Bool.false_and]
    go_enter Tryz.func254, Tryz.ntmps254
    go_wp2
    go_ret
    exact ⟨by rw [H.out]; rfl, rfl⟩
set_option maxHeartbeats 2000000 in
set_option maxRecDepth 100000 in
theorem rin_any (n a b : Int) (w : World) : Calls Tryz.prog 196 #[.int .i64 n, .int .i64 a, .int .i64 b] w fun e w' => e = .returned (.bool (inR n a b)) ∧ w = w' := by
  by_cases h : a ≤ n
  · have H : Hid (inR n a b = decide (n ≤ b)) := by show _ = _; unfold inR; rw [decide_eq_true h, Bool.true_and]
    go_enter Tryz.func196, Tryz.ntmps196
    go_wp2
    go_ret
    exact ⟨by rw [H.out]; rfl, rfl⟩
  · have H : Hid (inR n a b = false) := by show _ = _; unfold inR; rw [decide_eq_false h, Bool.false_and]
    go_enter Tryz.func196, Tryz.ntmps196
    go_wp2
    go_ret
    exact ⟨by rw [H.out]; rfl, rfl⟩
set_option maxHeartbeats 2000000 in
set_option maxRecDepth 100000 in
theorem wtick_any (t : Int) (w : World) (h0 : 0 ≤ t) (h1 : t ≤ 157766400000) :
    Calls Tryz.prog 171 #[.slice none 0 0, .int .i64 t] w fun e w' => ∃ v, e = .returned v ∧ Bytes w.heap.size w' v (tickL t) ∧ Below w.heap.size w w' := by
  have HT : Hid ([IntKind.u8.wrap (IntKind.u64.wrap t / 1099511627776), IntKind.u8.wrap (IntKind.u64.wrap t / 4294967296), IntKind.u8.wrap (IntKind.u64.wrap t / 16777216), IntKind.u8.wrap (IntKind.u64.wrap t / 65536), IntKind.u8.wrap (IntKind.u64.wrap t / 256), IntKind.u8.wrap (IntKind.u64.wrap t)] = tickL t) := by
    show _ = _
    rw [show IntKind.u64.wrap t = t by rw [IntKind.wrap_u64]; omega]
    rfl
  clear h0 h1
  go_enter Tryz.func171, Tryz.ntmps171
  go_wp2_with fail
  refine wp_loop_rounds 7 ?_
  rw [rounds_succ]
  go_wp2_with (at_builtin; refine app_any rfl (.tmp 10) (.tmp 16) rfl w.heap.size (.slice none 0 0) [] [IntKind.u8.wrap (IntKind.u64.wrap t / 1099511627776)] w rfl (World.ownsRow_nil _ _ _ _) rfl (Nat.le_of_ble_eq_true rfl) (Nat.le_refl _) ?_; intro v1 w1 o1 b1 s1)
  have z1 : w.heap.size ≤ w1.heap.size := Nat.le_trans (Nat.le_refl _) s1
  clear s1
  simp only [List.nil_append] at o1
  rw [rounds_succ]
  go_wp2_with (at_builtin; refine app_any rfl (.tmp 10) (.tmp 16) rfl w.heap.size v1 [IntKind.u8.wrap (IntKind.u64.wrap t / 1099511627776)] [IntKind.u8.wrap (IntKind.u64.wrap t / 4294967296)] w1 rfl o1 rfl (Nat.le_of_ble_eq_true rfl) z1 ?_; intro v2 w2 o2 b2 s2)
  have z2 : w.heap.size ≤ w2.heap.size := Nat.le_trans z1 s2
  have b2 := b1.trans b2
  clear b1 s2 o1 z1
  simp only [List.cons_append, List.nil_append] at o2
  rw [rounds_succ]
  go_wp2_with (at_builtin; refine app_any rfl (.tmp 10) (.tmp 16) rfl w.heap.size v2 [IntKind.u8.wrap (IntKind.u64.wrap t / 1099511627776), IntKind.u8.wrap (IntKind.u64.wrap t / 4294967296)] [IntKind.u8.wrap (IntKind.u64.wrap t / 16777216)] w2 rfl o2 rfl (Nat.le_of_ble_eq_true rfl) z2 ?_; intro v3 w3 o3 b3 s3)
  have z3 : w.heap.size ≤ w3.heap.size := Nat.le_trans z2 s3
  have b3 := b2.trans b3
  clear b2 s3 o2 z2
  simp only [List.cons_append, List.nil_append] at o3
  rw [rounds_succ]
  go_wp2_with (at_builtin; refine app_any rfl (.tmp 10) (.tmp 16) rfl w.heap.size v3 [IntKind.u8.wrap (IntKind.u64.wrap t / 1099511627776), IntKind.u8.wrap (IntKind.u64.wrap t / 4294967296), IntKind.u8.wrap (IntKind.u64.wrap t / 16777216)] [IntKind.u8.wrap (IntKind.u64.wrap t / 65536)] w3 rfl o3 rfl (Nat.le_of_ble_eq_true rfl) z3 ?_; intro v4 w4 o4 b4 s4)
  have z4 : w.heap.size ≤ w4.heap.size := Nat.le_trans z3 s4
  have b4 := b3.trans b4
  clear b3 s4 o3 z3
  simp only [List.cons_append, List.nil_append] at o4
  rw [rounds_succ]
  go_wp2_with (at_builtin; refine app_any rfl (.tmp 10) (.tmp 16) rfl w.heap.size v4 [IntKind.u8.wrap (IntKind.u64.wrap t / 1099511627776), IntKind.u8.wrap (IntKind.u64.wrap t / 4294967296), IntKind.u8.wrap (IntKind.u64.wrap t / 16777216), IntKind.u8.wrap (IntKind.u64.wrap t / 65536)] [IntKind.u8.wrap (IntKind.u64.wrap t / 256)] w4 rfl o4 rfl (Nat.le_of_ble_eq_true rfl) z4 ?_; intro v5 w5 o5 b5 s5)
  have z5 : w.heap.size ≤ w5.heap.size := Nat.le_trans z4 s5
  have b5 := b4.trans b5
  clear b4 s5 o4 z4
  simp only [List.cons_append, List.nil_append] at o5
  rw [rounds_succ]
  go_wp2_with (at_builtin; refine app_any rfl (.tmp 10) (.tmp 16) rfl w.heap.size v5 [IntKind.u8.wrap (IntKind.u64.wrap t / 1099511627776), IntKind.u8.wrap (IntKind.u64.wrap t / 4294967296), IntKind.u8.wrap (IntKind.u64.wrap t / 16777216), IntKind.u8.wrap (IntKind.u64.wrap t / 65536), IntKind.u8.wrap (IntKind.u64.wrap t / 256)] [IntKind.u8.wrap (IntKind.u64.wrap t)] w5 rfl o5 rfl (Nat.le_of_ble_eq_true rfl) z5 ?_; intro v6 w6 o6 b6 s6)
  have z6 : w.heap.size ≤ w6.heap.size := Nat.le_trans z5 s6
  have b6 := b5.trans b6
  clear b5 s6 o5 z5
  simp only [List.cons_append, List.nil_append] at o6
  rw [HT.out] at o6
  rw [rounds_succ]
  go_wp2_with (with_reducible refine post_stop ?_)
  exact ⟨bodyPost_ret (v := v6) (by simp [results, Tryz.results171, go_sem]) rfl ⟨v6, rfl, o6, b6⟩⟩
set_option maxHeartbeats 2000000 in
set_option maxRecDepth 100000 in
theorem wcount_any (B : Nat) (v : Value) (l : List Int) (c : Int) (w : World) (hO : Bytes B w v l) (hB : B ≤ w.heap.size) (hl : l.length ≤ 90) :
    Calls Tryz.prog 172 #[v, .int .i64 c] w fun e w' => ∃ v', e = .returned v' ∧ Bytes B w' v' (l ++ twoL c) ∧ Below B w w' ∧ w.heap.size ≤ w'.heap.size := by
  have HT : Hid (twoL c = [IntKind.u8.wrap (IntKind.u16.wrap c / 256), IntKind.u8.wrap (IntKind.u16.wrap c)]) := rfl
  go_enter Tryz.func172, Tryz.ntmps172
  go_wp2_with (at_builtin; refine app_any rfl (.tmp 8) (.tmp 14) rfl B v l [IntKind.u8.wrap (IntKind.u16.wrap c / 256), IntKind.u8.wrap (IntKind.u16.wrap c)] w rfl hO rfl (by simp; omega) hB ?_; intro v1 w1 o1 b1 s1)
  skip
  go_wp2_with (with_reducible refine post_stop ?_)
  exact ⟨bodyPost_ret (v := v1) (by simp [results, Tryz.results172, go_sem]) rfl ⟨v1, rfl, by rw [HT.out]; exact o1, b1, s1⟩⟩
theorem two_same {n : Int} (h : -32768 ≤ n ∧ n ≤ 65535) : [IntKind.u8.wrap ((if n < 0 then n + 65536 else n) / 256), IntKind.u8.wrap ((if n < 0 then n + 65536 else n) % 256)] = twoL n := by
  unfold twoL
  simp only [IntKind.wrap_u8, IntKind.wrap_u16]
  split <;> exact congr (congrArg _ (by omega)) (congr (congrArg _ (by omega)) rfl)
set_option maxHeartbeats 2000000 in
set_option maxRecDepth 100000 in
theorem rtwo_any (n : Int) (w : World) (h : -32768 ≤ n ∧ n ≤ 65535) :
    Calls Tryz.prog 109 #[.int .i64 n] w fun e w' => e = .returned (.slice (some ⟨w.heap.size, 0, none⟩) 2 2) ∧ w' = w.alloc (.cells (u8s (twoL n)).toArray 5) := by
  have H := two_same h
  by_cases c : n < 0
  · rw [if_pos c] at H
    have H : Hid (u8s (twoL n) = [.int .u8 ((n + 65536) / 256), .int .u8 ((n + 65536) % 256)]) := by show _ = _; rw [← H, show IntKind.u8.wrap ((n + 65536) / 256) = (n + 65536) / 256 by rw [IntKind.wrap_u8]; omega, show IntKind.u8.wrap ((n + 65536) % 256) = (n + 65536) % 256 by rw [IntKind.wrap_u8]; omega]; rfl
    have e1 : (n + 65536).tdiv 256 = (n + 65536) / 256 := Int.tdiv_eq_ediv_of_nonneg (by omega)
    have e2 : (n + 65536).tmod 256 = (n + 65536) % 256 := Int.tmod_eq_emod_of_nonneg (by omega)
    rw [H.out]
    go_enter Tryz.func109, Tryz.ntmps109
    go_wp2
    go_ret
    exact ⟨rfl, rfl⟩
  · rw [if_neg c] at H
    have H : Hid (u8s (twoL n) = [.int .u8 (n / 256), .int .u8 (n % 256)]) := by show _ = _; rw [← H, show IntKind.u8.wrap (n / 256) = n / 256 by rw [IntKind.wrap_u8]; omega, show IntKind.u8.wrap (n % 256) = n % 256 by rw [IntKind.wrap_u8]; omega]; rfl
    have e1 : n.tdiv 256 = n / 256 := Int.tdiv_eq_ediv_of_nonneg (by omega)
    have e2 : n.tmod 256 = n % 256 := Int.tmod_eq_emod_of_nonneg (by omega)
    rw [H.out]
    go_enter Tryz.func109, Tryz.ntmps109
    go_wp2
    go_ret
    exact ⟨rfl, rfl⟩
theorem or64t {a b : Nat} (ha : a < 72057594037927936) (hb : b < 256) : bits .or .u64 ((a : Int) * 256) (b : Int) = ((a * 256 + b : Nat) : Int) := by
  rw [show (a : Int) * 256 = ((a * 256 : Nat) : Int) by omega]
  show IntKind.u64.wrap ((BitVec.ofInt 64 ((a * 256 : Nat) : Int) ||| BitVec.ofInt 64 (b : Int)).toNat : Int) = _
  have e := Nat.two_pow_add_eq_or_of_lt (i := 8) (show b < 2 ^ 8 by omega) a
  rw [BitVec.toNat_or, ofInt_u64 _ (by omega), ofInt_u64 b (by omega), show a * 256 = 2 ^ 8 * a by omega, ← e]
  rw [IntKind.wrap_u64]
  omega
end Go.Proofs.YtoadcnhcfodkgaaGreatDoor
