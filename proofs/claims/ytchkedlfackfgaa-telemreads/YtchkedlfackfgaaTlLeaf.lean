/-
  Telem: the small functions, walked, for the seat Ytchkedlfackfgaa. (Made by mktl.py.)
-/
import Derived.Test.YtchkedlfackfgaaTlM
import Derived.Test.YtchkedlfackfgaaCCDays
import Derived.Test.YtchkedlfackfgaaCDDays
import Derived.Test.YtchkedlfackfgaaVLoop
import Derived.Handy
namespace Go.Proofs.Ytchkedlfackfgaa
open Go.RowKit

set_option maxHeartbeats 2000000 in
set_option maxRecDepth 100000 in
theorem within_any (n a b : Int) (w : World) : Calls Try.prog 25 #[.int .i64 n, .int .i64 a, .int .i64 b] w fun e w' => e = .returned (.bool (inR n a b)) ∧ w = w' := by
  by_cases h : a ≤ n
  · have H : Hid (inR n a b = decide (n ≤ b)) := by show _ = _; unfold inR; rw [decide_eq_true h, Bool.true_and]
    go_enter Try.func25, Try.ntmps25
    go_wp2
    go_ret
    exact ⟨by rw [H.out]; rfl, rfl⟩
  · have H : Hid (inR n a b = false) := by show _ = _; unfold inR; rw [decide_eq_false h, Bool.false_and]
    go_enter Try.func25, Try.ntmps25
    go_wp2
    go_ret
    exact ⟨by rw [H.out]; rfl, rfl⟩
set_option maxHeartbeats 2000000 in
set_option maxRecDepth 100000 in
theorem rin_any (n a b : Int) (w : World) : Calls Try.prog 28 #[.int .i64 n, .int .i64 a, .int .i64 b] w fun e w' => e = .returned (.bool (inR n a b)) ∧ w = w' := by
  by_cases h : a ≤ n
  · have H : Hid (inR n a b = decide (n ≤ b)) := by show _ = _; unfold inR; rw [decide_eq_true h, Bool.true_and]
    go_enter Try.func28, Try.ntmps28
    go_wp2
    go_ret
    exact ⟨by rw [H.out]; rfl, rfl⟩
  · have H : Hid (inR n a b = false) := by show _ = _; unfold inR; rw [decide_eq_false h, Bool.false_and]
    go_enter Try.func28, Try.ntmps28
    go_wp2
    go_ret
    exact ⟨by rw [H.out]; rfl, rfl⟩
set_option maxHeartbeats 2000000 in
set_option maxRecDepth 100000 in
theorem wtick_any (t : Int) (w : World) (h0 : 0 ≤ t) (h1 : t ≤ 157766400000) :
    Calls Try.prog 14 #[.slice none 0 0, .int .i64 t] w fun e w' => ∃ v, e = .returned v ∧ Bytes w.heap.size w' v (tickL t) ∧ Below w.heap.size w w' := by
  have HT : Hid ([IntKind.u8.wrap (IntKind.u64.wrap t / 1099511627776), IntKind.u8.wrap (IntKind.u64.wrap t / 4294967296), IntKind.u8.wrap (IntKind.u64.wrap t / 16777216), IntKind.u8.wrap (IntKind.u64.wrap t / 65536), IntKind.u8.wrap (IntKind.u64.wrap t / 256), IntKind.u8.wrap (IntKind.u64.wrap t)] = tickL t) := by
    show _ = _
    rw [show IntKind.u64.wrap t = t by rw [IntKind.wrap_u64]; omega]
    rfl
  clear h0 h1
  go_enter Try.func14, Try.ntmps14
  go_wp2_with fail
  refine wp_loop_rounds 7 ?_
  rw [rounds_succ]
  go_wp2_with (at_builtin; refine app_any rfl (.tmp 10) (.tmp 16) rfl w.heap.size (.slice none 0 0) [] [IntKind.u8.wrap (IntKind.u64.wrap t / 1099511627776)] w rfl (World.ownsRow_nil _ _ _ _) rfl (Nat.le_of_ble_eq_true rfl) (Nat.le_refl _) ?_; intro v1 w1 o1 b1 s1)
  have z1 : w.heap.size ≤ w1.heap.size := Nat.le_trans (Nat.le_refl _) s1
  clear s1
  simp only [List.nil_append] at o1
  rw [rounds_succ]
  go_wp2_with (at_builtin; refine app_any rfl (.tmp 10) (.tmp 16) rfl w.heap.size v1 [IntKind.u8.wrap (IntKind.u64.wrap t / 1099511627776)] [IntKind.u8.wrap (IntKind.u64.wrap t / 4294967296)] w1 rfl o1 rfl (Nat.le_of_ble_eq_true rfl) z1 ?_; intro v2 w2 o2 b2 s2)
  have z2 : w.heap.size ≤ w2.heap.size := Nat.le_trans z1 s2
  have b2 := b1.trans b2
  clear b1 s2 o1 z1
  simp only [List.cons_append, List.nil_append] at o2
  rw [rounds_succ]
  go_wp2_with (at_builtin; refine app_any rfl (.tmp 10) (.tmp 16) rfl w.heap.size v2 [IntKind.u8.wrap (IntKind.u64.wrap t / 1099511627776), IntKind.u8.wrap (IntKind.u64.wrap t / 4294967296)] [IntKind.u8.wrap (IntKind.u64.wrap t / 16777216)] w2 rfl o2 rfl (Nat.le_of_ble_eq_true rfl) z2 ?_; intro v3 w3 o3 b3 s3)
  have z3 : w.heap.size ≤ w3.heap.size := Nat.le_trans z2 s3
  have b3 := b2.trans b3
  clear b2 s3 o2 z2
  simp only [List.cons_append, List.nil_append] at o3
  rw [rounds_succ]
  go_wp2_with (at_builtin; refine app_any rfl (.tmp 10) (.tmp 16) rfl w.heap.size v3 [IntKind.u8.wrap (IntKind.u64.wrap t / 1099511627776), IntKind.u8.wrap (IntKind.u64.wrap t / 4294967296), IntKind.u8.wrap (IntKind.u64.wrap t / 16777216)] [IntKind.u8.wrap (IntKind.u64.wrap t / 65536)] w3 rfl o3 rfl (Nat.le_of_ble_eq_true rfl) z3 ?_; intro v4 w4 o4 b4 s4)
  have z4 : w.heap.size ≤ w4.heap.size := Nat.le_trans z3 s4
  have b4 := b3.trans b4
  clear b3 s4 o3 z3
  simp only [List.cons_append, List.nil_append] at o4
  rw [rounds_succ]
  go_wp2_with (at_builtin; refine app_any rfl (.tmp 10) (.tmp 16) rfl w.heap.size v4 [IntKind.u8.wrap (IntKind.u64.wrap t / 1099511627776), IntKind.u8.wrap (IntKind.u64.wrap t / 4294967296), IntKind.u8.wrap (IntKind.u64.wrap t / 16777216), IntKind.u8.wrap (IntKind.u64.wrap t / 65536)] [IntKind.u8.wrap (IntKind.u64.wrap t / 256)] w4 rfl o4 rfl (Nat.le_of_ble_eq_true rfl) z4 ?_; intro v5 w5 o5 b5 s5)
  have z5 : w.heap.size ≤ w5.heap.size := Nat.le_trans z4 s5
  have b5 := b4.trans b5
  clear b4 s5 o4 z4
  simp only [List.cons_append, List.nil_append] at o5
  rw [rounds_succ]
  go_wp2_with (at_builtin; refine app_any rfl (.tmp 10) (.tmp 16) rfl w.heap.size v5 [IntKind.u8.wrap (IntKind.u64.wrap t / 1099511627776), IntKind.u8.wrap (IntKind.u64.wrap t / 4294967296), IntKind.u8.wrap (IntKind.u64.wrap t / 16777216), IntKind.u8.wrap (IntKind.u64.wrap t / 65536), IntKind.u8.wrap (IntKind.u64.wrap t / 256)] [IntKind.u8.wrap (IntKind.u64.wrap t)] w5 rfl o5 rfl (Nat.le_of_ble_eq_true rfl) z5 ?_; intro v6 w6 o6 b6 s6)
  have z6 : w.heap.size ≤ w6.heap.size := Nat.le_trans z5 s6
  have b6 := b5.trans b6
  clear b5 s6 o5 z5
  simp only [List.cons_append, List.nil_append] at o6
  rw [HT.out] at o6
  rw [rounds_succ]
  go_wp2_with (with_reducible refine post_stop ?_)
  exact ⟨bodyPost_ret (v := v6) (by simp [results, Try.results14, go_sem]) rfl ⟨v6, rfl, o6, b6⟩⟩
set_option maxHeartbeats 2000000 in
set_option maxRecDepth 100000 in
theorem wcount_any (B : Nat) (v : Value) (l : List Int) (c : Int) (w : World) (hO : Bytes B w v l) (hB : B ≤ w.heap.size) (hl : l.length ≤ 90) :
    Calls Try.prog 15 #[v, .int .i64 c] w fun e w' => ∃ v', e = .returned v' ∧ Bytes B w' v' (l ++ twoL c) ∧ Below B w w' ∧ w.heap.size ≤ w'.heap.size := by
  have HT : Hid (twoL c = [IntKind.u8.wrap (IntKind.u16.wrap c / 256), IntKind.u8.wrap (IntKind.u16.wrap c)]) := rfl
  go_enter Try.func15, Try.ntmps15
  go_wp2_with (at_builtin; refine app_any rfl (.tmp 8) (.tmp 14) rfl B v l [IntKind.u8.wrap (IntKind.u16.wrap c / 256), IntKind.u8.wrap (IntKind.u16.wrap c)] w rfl hO rfl (by simp; omega) hB ?_; intro v1 w1 o1 b1 s1)
  skip
  go_wp2_with (with_reducible refine post_stop ?_)
  exact ⟨bodyPost_ret (v := v1) (by simp [results, Try.results15, go_sem]) rfl ⟨v1, rfl, by rw [HT.out]; exact o1, b1, s1⟩⟩
theorem two_same {n : Int} (h : -32768 ≤ n ∧ n ≤ 65535) : [IntKind.u8.wrap ((if n < 0 then n + 65536 else n) / 256), IntKind.u8.wrap ((if n < 0 then n + 65536 else n) % 256)] = twoL n := by
  unfold twoL
  simp only [IntKind.wrap_u8, IntKind.wrap_u16]
  split <;> exact congr (congrArg _ (by omega)) (congr (congrArg _ (by omega)) rfl)
set_option maxHeartbeats 2000000 in
set_option maxRecDepth 100000 in
theorem rtwo_any (n : Int) (w : World) (h : -32768 ≤ n ∧ n ≤ 65535) :
    Calls Try.prog 17 #[.int .i64 n] w fun e w' => e = .returned (.slice (some ⟨w.heap.size, 0, none⟩) 2 2) ∧ w' = w.alloc (.cells (u8s (twoL n)).toArray 5) := by
  have H := two_same h
  by_cases c : n < 0
  · rw [if_pos c] at H
    have H : Hid (u8s (twoL n) = [.int .u8 ((n + 65536) / 256), .int .u8 ((n + 65536) % 256)]) := by show _ = _; rw [← H, show IntKind.u8.wrap ((n + 65536) / 256) = (n + 65536) / 256 by rw [IntKind.wrap_u8]; omega, show IntKind.u8.wrap ((n + 65536) % 256) = (n + 65536) % 256 by rw [IntKind.wrap_u8]; omega]; rfl
    have e1 : (n + 65536).tdiv 256 = (n + 65536) / 256 := Int.tdiv_eq_ediv_of_nonneg (by omega)
    have e2 : (n + 65536).tmod 256 = (n + 65536) % 256 := Int.tmod_eq_emod_of_nonneg (by omega)
    rw [H.out]
    go_enter Try.func17, Try.ntmps17
    go_wp2
    go_ret
    exact ⟨rfl, rfl⟩
  · rw [if_neg c] at H
    have H : Hid (u8s (twoL n) = [.int .u8 (n / 256), .int .u8 (n % 256)]) := by show _ = _; rw [← H, show IntKind.u8.wrap (n / 256) = n / 256 by rw [IntKind.wrap_u8]; omega, show IntKind.u8.wrap (n % 256) = n % 256 by rw [IntKind.wrap_u8]; omega]; rfl
    have e1 : n.tdiv 256 = n / 256 := Int.tdiv_eq_ediv_of_nonneg (by omega)
    have e2 : n.tmod 256 = n % 256 := Int.tmod_eq_emod_of_nonneg (by omega)
    rw [H.out]
    go_enter Try.func17, Try.ntmps17
    go_wp2
    go_ret
    exact ⟨rfl, rfl⟩
theorem or64t {a b : Nat} (ha : a < 72057594037927936) (hb : b < 256) : bits .or .u64 ((a : Int) * 256) (b : Int) = ((a * 256 + b : Nat) : Int) := by
  rw [show (a : Int) * 256 = ((a * 256 : Nat) : Int) by omega]
  show IntKind.u64.wrap ((BitVec.ofInt 64 ((a * 256 : Nat) : Int) ||| BitVec.ofInt 64 (b : Int)).toNat : Int) = _
  have e := Nat.two_pow_add_eq_or_of_lt (i := 8) (show b < 2 ^ 8 by omega) a
  rw [BitVec.toNat_or, ofInt_u64 _ (by omega), ofInt_u64 b (by omega), show a * 256 = 2 ^ 8 * a by omega, ← e]
  rw [IntKind.wrap_u64]
  omega
set_option maxHeartbeats 2000000 in
set_option maxRecDepth 100000 in
theorem tjoined_any (s : ByteArray) (w : World) (h : s.size = 6) :
    Calls Try.prog 18 #[.string s] w fun e w' => e = .returned (.int .i64 (tickS s)) ∧ w = w' := by
  go_enter Try.func18, Try.ntmps18
  go_wp2
  go_loop [3, 5] (fun r i => ∃ k : Nat, k ≤ 6 ∧ i = .int .i64 k ∧ r = .int .u64 (tickK s k : Nat)) (fun _ i => 6 - (intOf i).toNat)
  case atStart => exact ⟨0, by omega, rfl, rfl⟩
  case round =>
    obtain ⟨k, hk, rfl, rfl⟩ := hrel
    by_cases c : k < 6
    · have hi := idx_run (s := s) (i := (k : Int)) (n := k) (by omega) rfl
      have hb := bt_lt s k
      have ht : tickK s k < 1099511627776 := Nat.lt_of_lt_of_le (tickK_lt s k) (show 256 ^ k ≤ 256 ^ 5 from Nat.pow_le_pow_right (by decide) (by omega))
      have HT : Hid (tickK s (k + 1) = tickK s k * 256 + bt s k) := rfl
      generalize tickK s k = t at ht HT ⊢
      generalize bt s k = b at hi hb HT
      have ho := or64t (show t < 72057594037927936 by omega) hb
      go_wp2
      go_round
      case rel => exact ⟨k + 1, by omega, by go_num, by rw [HT.out]; show _ = Value.int .u64 ((t * 256 + b : Nat) : Int); rw [show ((t * 256 + b : Nat) : Int) = (t : Int) * 256 + b by omega]⟩
      case measure => simp [intOf]; omega
    · obtain rfl : k = 6 := by omega
      have HT : Hid (tickS s = (tickK s 6 : Nat)) := rfl
      have hl := tickK_le s (k := 6) (by omega)
      generalize tickK s 6 = t at HT hl ⊢
      have hw : IntKind.i64.wrap (t : Int) = t := by rw [IntKind.wrap_i64]; omega
      go_wp2
      go_ret
      exact ⟨by rw [HT.out]; rfl, rfl⟩
set_option maxHeartbeats 2000000 in
set_option maxRecDepth 100000 in
theorem tpair_any (s : ByteArray) (i : Int) (p : Nat) (w : World) (hi : i = p) (h : p + 1 < s.size) (hp : p < 100) :
    Calls Try.prog 19 #[.string s, .int .i64 i] w fun e w' => e = .returned (.int .u16 (cnt s p : Nat)) ∧ w' = w.drew := by
  subst hi
  have i0 := idx_run (s := s) (i := (p : Int)) (n := p) (by omega) (by omega)
  have i1 := idx_run (s := s) (i := (p : Int) + 1) (n := p + 1) (by omega) (by omega)
  have b0 := bt_lt s p
  have b1 := bt_lt s (p + 1)
  have HC : Hid (cnt s p = bt s p * 256 + bt s (p + 1)) := rfl
  have w3 : IntKind.i64.wrap ((p : Int) + 1) = (p : Int) + 1 := by rw [IntKind.wrap_i64]; omega
  generalize bt s p = a at i0 b0 HC
  generalize bt s (p + 1) = b at i1 b1 HC
  have ho := or16 b0 b1
  rw [HC.out]
  go_enter Try.func19, Try.ntmps19
  go_wp2
  go_region
  go_wp2
  go_ret
  exact ⟨by have e : ((a * 256 + b : Nat) : Int) = (a : Int) * 256 + b := by omega
            rw [e]; rfl, rfl⟩
set_option maxHeartbeats 2000000 in
set_option maxRecDepth 100000 in
theorem tsigned_any (s : ByteArray) (i : Int) (p : Nat) (w : World) (hi : i = p) (h : p + 1 < s.size) (hp : p < 100) :
    Calls Try.prog 20 #[.string s, .int .i64 i] w fun e w' => e = .returned (.int .i64 (sg (cnt s p))) ∧ w' = w.drew := by
  subst hi
  have hc := fun W => tpair_any s p p W rfl h hp
  have hl := cnt_lt s p
  generalize cnt s p = n at hc hl ⊢
  have HS : Hid (sg n = if 32768 ≤ n then (n : Int) - 65536 else n) := rfl
  have e16 : IntKind.i16.wrap (n : Int) = sg n := by
    rw [HS.out]
    simp [IntKind.wrap, IntKind.bits, IntKind.signed]
    split <;> split <;> omega
  have hr := sg_rng hl
  have e64 : IntKind.i64.wrap (sg n) = sg n := by rw [IntKind.wrap_i64]; omega
  go_enter Try.func20, Try.ntmps20
  go_wp2_with (go_at_call 19; refine (hc _).mono ?_; rintro e w1 ⟨rfl, rfl⟩)
  go_ret
  exact ⟨rfl, rfl⟩
set_option maxHeartbeats 2000000 in
set_option maxRecDepth 100000 in
theorem rtcount_any (s : ByteArray) (i : Int) (p : Nat) (w : World) (hi : i = p) (h : p + 1 < s.size) (hp : p < 100) :
    Calls Try.prog 21 #[.string s, .int .i64 i] w fun e w' => e = .returned (.int .i64 (sg (cnt s p))) ∧ w' = w.drew := by
  subst hi
  have i0 := idx_run (s := s) (i := (p : Int)) (n := p) (by omega) (by omega)
  have i1 := idx_run (s := s) (i := (p : Int) + 1) (n := p + 1) (by omega) (by omega)
  have b0 := bt_lt s p
  have b1 := bt_lt s (p + 1)
  have HC : cnt s p = bt s p * 256 + bt s (p + 1) := rfl
  have w3 : IntKind.i64.wrap ((p : Int) + 1) = (p : Int) + 1 := by rw [IntKind.wrap_i64]; omega
  have HS : sg (cnt s p) = if 32768 ≤ (bt s p : Int) * 256 + (bt s (p + 1) : Int) then (bt s p : Int) * 256 + (bt s (p + 1) : Int) - 65536 else (bt s p : Int) * 256 + (bt s (p + 1) : Int) := by
    unfold sg
    rw [HC]
    split <;> split <;> omega
  rw [HS]
  clear HS HC
  generalize bt s p = a at i0 b0 ⊢
  generalize bt s (p + 1) = b at i1 b1 ⊢
  have w1 : IntKind.i64.wrap ((a : Int) * 256) = (a : Int) * 256 := by rw [IntKind.wrap_i64]; omega
  have w2 : IntKind.i64.wrap ((a : Int) * 256 + b) = (a : Int) * 256 + b := by rw [IntKind.wrap_i64]; omega
  have b0 : 0 ≤ (a : Int) ∧ (a : Int) < 256 := by omega
  have b1 : 0 ≤ (b : Int) ∧ (b : Int) < 256 := by omega
  generalize (a : Int) = x at *
  generalize (b : Int) = y at *
  by_cases c : 32768 ≤ x * 256 + y
  · rw [if_pos c]
    go_enter Try.func21, Try.ntmps21
    go_wp2
    go_region
    go_wp2
    go_ret
    exact ⟨rfl, rfl⟩
  · rw [if_neg c]
    go_enter Try.func21, Try.ntmps21
    go_wp2
    go_region
    go_wp2
    go_ret
    exact ⟨rfl, rfl⟩
end Go.Proofs.Ytchkedlfackfgaa
