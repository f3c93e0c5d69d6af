/-
  Orders: the small functions, walked, for the seat Ytpceomcnknjiiaa. (Made by mkod.py.)
  Orders: elements and withElements, walked, for the seat Ytpceomcnknjiiaa. (Made by mkod.py.)
-/
import Derived.Test.YtpceomcnknjiiaaOdM
import Derived.Test.YtpceomcnknjiiaaVLoop
import Derived.Test.YtpceomcnknjiiaaJB
import Derived.Handy
namespace Go.Proofs.Ytpceomcnknjiiaa
open Go.RowKit

set_option maxHeartbeats 1000000 in
theorem sizeOf_any (c : Int) (w : World) : Calls Try.prog 9 #[.int .i64 c] w fun e w' => e = .returned (.int .i64 (sizeS c)) ∧ w = w' := by
  by_cases h1 : c = 1
  · subst h1
    go_enter Try.func9, Try.ntmps9
    go_wp2
    go_ret
    exact ⟨rfl, rfl⟩
  by_cases h2 : c = 2
  · subst h2
    go_enter Try.func9, Try.ntmps9
    go_wp2
    go_ret
    exact ⟨rfl, rfl⟩
  by_cases h4 : c = 4
  · subst h4
    go_enter Try.func9, Try.ntmps9
    go_wp2
    go_ret
    exact ⟨rfl, rfl⟩
  by_cases h3 : c = 3
  · subst h3
    go_enter Try.func9, Try.ntmps9
    go_wp2
    go_ret
    exact ⟨rfl, rfl⟩
  have e : sizeS c = 0 := by unfold sizeS; rw [if_neg (by omega), if_neg h3]
  rw [e]
  go_enter Try.func9, Try.ntmps9
  go_wp2
  go_ret
  exact ⟨rfl, rfl⟩
set_option maxHeartbeats 1000000 in
theorem refused_any (q c : Int) (o : V7) (x : Int) (w : World) : Calls Try.prog 13 #[.agg #[.int .i64 q, .int .i64 c, .int .i64 o.1, .int .i64 o.2.1, .int .i64 o.2.2.1, .int .i64 o.2.2.2.1, .int .i64 o.2.2.2.2.1, .int .i64 o.2.2.2.2.2.1, .int .i64 o.2.2.2.2.2.2], .int .i64 x] w fun e w' => e = .returned (.tuple #[.agg #[.int .i64 q, .int .i64 0, .int .i64 0, .int .i64 0, .int .i64 0, .int .i64 0, .int .i64 0, .int .i64 0, .int .i64 0], .int .i64 x]) ∧ Below w.heap.size w w' := by
  go_enter Try.func13, Try.ntmps13
  go_wp2_with (with_reducible refine post_stop ?_)
  refine ⟨bodyPost_ret (v := .tuple #[.agg #[.int .i64 q, .int .i64 0, .int .i64 0, .int .i64 0, .int .i64 0, .int .i64 0, .int .i64 0, .int .i64 0, .int .i64 0], .int .i64 x]) (by simp [results_cell_tmp Try.results13, asAddr, go_sem]) rfl ⟨rfl, ?_⟩⟩
  exact bel_al (bel_al (Below.refl _ _) _) _
theorem or64u {a b : Nat} (ha : a < 72057594037927936) (hb : b < 256) : bits .or .u64 ((a : Int) * 256) (b : Int) = ((a * 256 + b : Nat) : Int) := by
  rw [show (a : Int) * 256 = ((a * 256 : Nat) : Int) by omega]
  show IntKind.u64.wrap ((BitVec.ofInt 64 ((a * 256 : Nat) : Int) ||| BitVec.ofInt 64 (b : Int)).toNat : Int) = _
  have e := Nat.two_pow_add_eq_or_of_lt (i := 8) (show b < 2 ^ 8 by omega) a
  rw [BitVec.toNat_or, ofInt_u64 _ (by omega), ofInt_u64 b (by omega), show a * 256 = 2 ^ 8 * a by omega, ← e]
  rw [IntKind.wrap_u64]
  omega
set_option maxHeartbeats 1000000 in
set_option maxRecDepth 100000 in
theorem joined_any (s : ByteArray) (w : World) (h : 8 ≤ s.size) :
    Calls Try.prog 23 #[.string s] w fun e w' => e = .returned (.int .i64 (numS s 0)) ∧ w = w' := by
  go_enter Try.func23, Try.ntmps23
  go_wp2
  go_loop [3, 5] (fun r i => ∃ k : Nat, k ≤ 8 ∧ i = .int .i64 k ∧ r = .int .u64 (numK s 0 k : Nat)) (fun _ i => 8 - (intOf i).toNat)
  case atStart => exact ⟨0, by omega, rfl, rfl⟩
  case round =>
    obtain ⟨k, hk, rfl, rfl⟩ := hrel
    by_cases c : k < 8
    · have hi := idx_run (s := s) (i := (k : Int)) (n := k) (by omega) rfl
      have hb := bt_lt s k
      have ht : numK s 0 k < 72057594037927936 := Nat.lt_of_lt_of_le (numK_lt s 0 k) (show 256 ^ k ≤ 256 ^ 7 from Nat.pow_le_pow_right (by decide) (by omega))
      have HT : Hid (numK s 0 (k + 1) = numK s 0 k * 256 + bt s k) := by show numK s 0 k * 256 + bt s (0 + k) = _; rw [Nat.zero_add]
      generalize numK s 0 k = t at ht HT ⊢
      generalize bt s k = b at hi hb HT
      have ho := or64u ht hb
      go_wp2
      go_round
      case rel => exact ⟨k + 1, by omega, by go_num, by rw [HT.out]; show _ = Value.int .u64 ((t * 256 + b : Nat) : Int); rw [show ((t * 256 + b : Nat) : Int) = (t : Int) * 256 + b by omega]⟩
      case measure => simp [intOf]; omega
    · obtain rfl : k = 8 := by omega
      have HT : Hid (numS s 0 = IntKind.i64.wrap (numK s 0 8 : Nat)) := rfl
      have hl := numK_lt s 0 8
      generalize numK s 0 8 = t at HT hl ⊢
      go_wp2
      go_ret
      exact ⟨by rw [HT.out, IntWalk.i64_left]; rfl, rfl⟩
set_option maxHeartbeats 1000000 in
set_option maxRecDepth 100000 in
/-- What 'at' in elements answers. -/
theorem elAt_any (p : Nat) (hp : p < 7) (s : ByteArray) (k : Nat) (w : World) (hs : s.size = 56) (hc : w.cell? ⟨k, 0, none⟩ = some (.string s)) :
    Calls Try.prog 22 #[.int .i64 p, .pointer (some ⟨k, 0, none⟩)] w fun e w' => e = .returned (.int .i64 (numS s (8 * p))) ∧ w = w' := by
  have hj := fun W => joined_any (s.extract (8 * p) s.size) W (by rw [ByteArray.size_extract]; omega)
  rw [numS_tail, Nat.add_zero] at hj
  have hsl : ∀ W : World, (Instr.slice 9 (.string s) (some (.int .i64 ((p : Int) * 8))) none none).run Try.prog W = .ok (.string (s.extract (8 * p) s.size)) W := fun W => by
    rw [run_slice_string_from_if W 9 s .i64 ((p : Int) * 8) Try.underlying9, if_pos (by omega), show ((p : Int) * 8).toNat = 8 * p by omega]
  generalize s.extract (8 * p) s.size = y at *
  generalize numS s (8 * p) = x at *
  go_enter Try.func22, Try.ntmps22
  go_wp2_with (go_at_call 23; refine (hj _).mono ?_; rintro e X ⟨rfl, rfl⟩)
  go_ret
  exact ⟨rfl, rfl⟩
set_option maxHeartbeats 2000000 in
set_option maxRecDepth 100000 in
/-- withNumber. -/
theorem wnum_any (B : Nat) (v : Value) (l : List Int) (n : Int) (w : World) (hO : Bytes B w v l) (hB : B ≤ w.heap.size) (hl : l.length ≤ 90) :
    Calls Try.prog 18 #[v, .int .i64 n] w fun e w' => ∃ v', e = .returned v' ∧ Bytes B w' v' (l ++ numL n) ∧ Below B w w' ∧ w.heap.size ≤ w'.heap.size := by
  go_enter Try.func18, Try.ntmps18
  go_wp2_with fail
  refine wp_loop_rounds 9 ?_
  rw [rounds_succ]
  go_wp2_with (at_builtin; refine app_any rfl (.tmp 10) (.tmp 16) rfl B v l [IntKind.u8.wrap (IntKind.u64.wrap n / 72057594037927936)] w rfl hO rfl (by simp; omega) hB ?_; intro v1 w1 o1 b1 s1)
  have z1 : B ≤ w1.heap.size := Nat.le_trans hB s1
  rw [rounds_succ]
  go_wp2_with (at_builtin; refine app_any rfl (.tmp 10) (.tmp 16) rfl B v1 (l ++ [IntKind.u8.wrap (IntKind.u64.wrap n / 72057594037927936)]) [IntKind.u8.wrap (IntKind.u64.wrap n / 281474976710656)] w1 rfl o1 rfl (by simp; omega) z1 ?_; intro v2 w2 o2 b2 s2)
  have z2 : B ≤ w2.heap.size := Nat.le_trans z1 s2
  have b2 := b1.trans b2
  have s2 := Nat.le_trans s1 s2
  clear b1 s1 o1 z1
  rw [List.append_assoc] at o2
  simp only [List.cons_append, List.nil_append] at o2
  rw [rounds_succ]
  go_wp2_with (at_builtin; refine app_any rfl (.tmp 10) (.tmp 16) rfl B v2 (l ++ [IntKind.u8.wrap (IntKind.u64.wrap n / 72057594037927936), IntKind.u8.wrap (IntKind.u64.wrap n / 281474976710656)]) [IntKind.u8.wrap (IntKind.u64.wrap n / 1099511627776)] w2 rfl o2 rfl (by simp; omega) z2 ?_; intro v3 w3 o3 b3 s3)
  have z3 : B ≤ w3.heap.size := Nat.le_trans z2 s3
  have b3 := b2.trans b3
  have s3 := Nat.le_trans s2 s3
  clear b2 s2 o2 z2
  rw [List.append_assoc] at o3
  simp only [List.cons_append, List.nil_append] at o3
  rw [rounds_succ]
  go_wp2_with (at_builtin; refine app_any rfl (.tmp 10) (.tmp 16) rfl B v3 (l ++ [IntKind.u8.wrap (IntKind.u64.wrap n / 72057594037927936), IntKind.u8.wrap (IntKind.u64.wrap n / 281474976710656), IntKind.u8.wrap (IntKind.u64.wrap n / 1099511627776)]) [IntKind.u8.wrap (IntKind.u64.wrap n / 4294967296)] w3 rfl o3 rfl (by simp; omega) z3 ?_; intro v4 w4 o4 b4 s4)
  have z4 : B ≤ w4.heap.size := Nat.le_trans z3 s4
  have b4 := b3.trans b4
  have s4 := Nat.le_trans s3 s4
  clear b3 s3 o3 z3
  rw [List.append_assoc] at o4
  simp only [List.cons_append, List.nil_append] at o4
  rw [rounds_succ]
  go_wp2_with (at_builtin; refine app_any rfl (.tmp 10) (.tmp 16) rfl B v4 (l ++ [IntKind.u8.wrap (IntKind.u64.wrap n / 72057594037927936), IntKind.u8.wrap (IntKind.u64.wrap n / 281474976710656), IntKind.u8.wrap (IntKind.u64.wrap n / 1099511627776), IntKind.u8.wrap (IntKind.u64.wrap n / 4294967296)]) [IntKind.u8.wrap (IntKind.u64.wrap n / 16777216)] w4 rfl o4 rfl (by simp; omega) z4 ?_; intro v5 w5 o5 b5 s5)
  have z5 : B ≤ w5.heap.size := Nat.le_trans z4 s5
  have b5 := b4.trans b5
  have s5 := Nat.le_trans s4 s5
  clear b4 s4 o4 z4
  rw [List.append_assoc] at o5
  simp only [List.cons_append, List.nil_append] at o5
  rw [rounds_succ]
  go_wp2_with (at_builtin; refine app_any rfl (.tmp 10) (.tmp 16) rfl B v5 (l ++ [IntKind.u8.wrap (IntKind.u64.wrap n / 72057594037927936), IntKind.u8.wrap (IntKind.u64.wrap n / 281474976710656), IntKind.u8.wrap (IntKind.u64.wrap n / 1099511627776), IntKind.u8.wrap (IntKind.u64.wrap n / 4294967296), IntKind.u8.wrap (IntKind.u64.wrap n / 16777216)]) [IntKind.u8.wrap (IntKind.u64.wrap n / 65536)] w5 rfl o5 rfl (by simp; omega) z5 ?_; intro v6 w6 o6 b6 s6)
  have z6 : B ≤ w6.heap.size := Nat.le_trans z5 s6
  have b6 := b5.trans b6
  have s6 := Nat.le_trans s5 s6
  clear b5 s5 o5 z5
  rw [List.append_assoc] at o6
  simp only [List.cons_append, List.nil_append] at o6
  rw [rounds_succ]
  go_wp2_with (at_builtin; refine app_any rfl (.tmp 10) (.tmp 16) rfl B v6 (l ++ [IntKind.u8.wrap (IntKind.u64.wrap n / 72057594037927936), IntKind.u8.wrap (IntKind.u64.wrap n / 281474976710656), IntKind.u8.wrap (IntKind.u64.wrap n / 1099511627776), IntKind.u8.wrap (IntKind.u64.wrap n / 4294967296), IntKind.u8.wrap (IntKind.u64.wrap n / 16777216), IntKind.u8.wrap (IntKind.u64.wrap n / 65536)]) [IntKind.u8.wrap (IntKind.u64.wrap n / 256)] w6 rfl o6 rfl (by simp; omega) z6 ?_; intro v7 w7 o7 b7 s7)
  have z7 : B ≤ w7.heap.size := Nat.le_trans z6 s7
  have b7 := b6.trans b7
  have s7 := Nat.le_trans s6 s7
  clear b6 s6 o6 z6
  rw [List.append_assoc] at o7
  simp only [List.cons_append, List.nil_append] at o7
  rw [rounds_succ]
  go_wp2_with (at_builtin; refine app_any rfl (.tmp 10) (.tmp 16) rfl B v7 (l ++ [IntKind.u8.wrap (IntKind.u64.wrap n / 72057594037927936), IntKind.u8.wrap (IntKind.u64.wrap n / 281474976710656), IntKind.u8.wrap (IntKind.u64.wrap n / 1099511627776), IntKind.u8.wrap (IntKind.u64.wrap n / 4294967296), IntKind.u8.wrap (IntKind.u64.wrap n / 16777216), IntKind.u8.wrap (IntKind.u64.wrap n / 65536), IntKind.u8.wrap (IntKind.u64.wrap n / 256)]) [IntKind.u8.wrap (IntKind.u64.wrap n)] w7 rfl o7 rfl (by simp; omega) z7 ?_; intro v8 w8 o8 b8 s8)
  have z8 : B ≤ w8.heap.size := Nat.le_trans z7 s8
  have b8 := b7.trans b8
  have s8 := Nat.le_trans s7 s8
  clear b7 s7 o7 z7
  rw [List.append_assoc] at o8
  simp only [List.cons_append, List.nil_append] at o8
  rw [rounds_succ]
  go_wp2_with (with_reducible refine post_stop ?_)
  exact ⟨bodyPost_ret (v := v8) (by simp [results, Try.results18, go_sem]) rfl ⟨v8, rfl, o8, b8, s8⟩⟩
end Go.Proofs.Ytpceomcnknjiiaa
namespace Go.Proofs.Ytpceomcnknjiiaa
open Go.RowKit

@[go_sem] theorem idx_seven0 (a b c d e f g : Int) (w : World) : (Instr.index 45 (.agg #[.int .i64 a, .int .i64 b, .int .i64 c, .int .i64 d, .int .i64 e, .int .i64 f, .int .i64 g]) (.int .i64 0)).run Try.prog w = .ok (.int .i64 a) w := by kernel_rfl
@[go_sem] theorem idx_seven1 (a b c d e f g : Int) (w : World) : (Instr.index 45 (.agg #[.int .i64 a, .int .i64 b, .int .i64 c, .int .i64 d, .int .i64 e, .int .i64 f, .int .i64 g]) (.int .i64 1)).run Try.prog w = .ok (.int .i64 b) w := by kernel_rfl
@[go_sem] theorem idx_seven2 (a b c d e f g : Int) (w : World) : (Instr.index 45 (.agg #[.int .i64 a, .int .i64 b, .int .i64 c, .int .i64 d, .int .i64 e, .int .i64 f, .int .i64 g]) (.int .i64 2)).run Try.prog w = .ok (.int .i64 c) w := by kernel_rfl
@[go_sem] theorem idx_seven3 (a b c d e f g : Int) (w : World) : (Instr.index 45 (.agg #[.int .i64 a, .int .i64 b, .int .i64 c, .int .i64 d, .int .i64 e, .int .i64 f, .int .i64 g]) (.int .i64 3)).run Try.prog w = .ok (.int .i64 d) w := by kernel_rfl
@[go_sem] theorem idx_seven4 (a b c d e f g : Int) (w : World) : (Instr.index 45 (.agg #[.int .i64 a, .int .i64 b, .int .i64 c, .int .i64 d, .int .i64 e, .int .i64 f, .int .i64 g]) (.int .i64 4)).run Try.prog w = .ok (.int .i64 e) w := by kernel_rfl
@[go_sem] theorem idx_seven5 (a b c d e f g : Int) (w : World) : (Instr.index 45 (.agg #[.int .i64 a, .int .i64 b, .int .i64 c, .int .i64 d, .int .i64 e, .int .i64 f, .int .i64 g]) (.int .i64 5)).run Try.prog w = .ok (.int .i64 f) w := by kernel_rfl
@[go_sem] theorem idx_seven6 (a b c d e f g : Int) (w : World) : (Instr.index 45 (.agg #[.int .i64 a, .int .i64 b, .int .i64 c, .int .i64 d, .int .i64 e, .int .i64 f, .int .i64 g]) (.int .i64 6)).run Try.prog w = .ok (.int .i64 g) w := by kernel_rfl
set_option maxHeartbeats 2000000 in
set_option maxRecDepth 100000 in
theorem elements_any (s : ByteArray) (w : World) (hs : s.size = 56) :
    Calls Try.prog 14 #[.string s] w fun e w' => e = .returned (.agg #[.int .i64 (numS s 0), .int .i64 (numS s 8), .int .i64 (numS s 16), .int .i64 (numS s 24), .int .i64 (numS s 32), .int .i64 (numS s 40), .int .i64 (numS s 48)]) ∧ Below w.heap.size w w' := by
  have hmf : ∀ (fn : Fn) (first cap : Array Value) (W : World), (Instr.makeFunc fn first cap).run Try.prog W = .ok (.func fn first cap) W := fun _ _ _ _ => rfl
  have A := (Arr_at w w.heap.size [.string s] 9 rfl).alloc (.cells #[.int .i64 0, .int .i64 0, .int .i64 0, .int .i64 0, .int .i64 0, .int .i64 0, .int .i64 0] 23)
  have c0 := A.c 0 (of_decide_eq_true rfl)
  have C0 : Hid _ := c0
  clear A c0
  have h0 := fun W c => elAt_any 0 (by decide) s w.heap.size W hs c
  rw [show 8 * 0 = 0 from rfl] at h0
  generalize numS s 0 = x0 at h0 ⊢
  have h1 := fun W c => elAt_any 1 (by decide) s w.heap.size W hs c
  rw [show 8 * 1 = 8 from rfl] at h1
  generalize numS s 8 = x1 at h1 ⊢
  have h2 := fun W c => elAt_any 2 (by decide) s w.heap.size W hs c
  rw [show 8 * 2 = 16 from rfl] at h2
  generalize numS s 16 = x2 at h2 ⊢
  have h3 := fun W c => elAt_any 3 (by decide) s w.heap.size W hs c
  rw [show 8 * 3 = 24 from rfl] at h3
  generalize numS s 24 = x3 at h3 ⊢
  have h4 := fun W c => elAt_any 4 (by decide) s w.heap.size W hs c
  rw [show 8 * 4 = 32 from rfl] at h4
  generalize numS s 32 = x4 at h4 ⊢
  have h5 := fun W c => elAt_any 5 (by decide) s w.heap.size W hs c
  rw [show 8 * 5 = 40 from rfl] at h5
  generalize numS s 40 = x5 at h5 ⊢
  have h6 := fun W c => elAt_any 6 (by decide) s w.heap.size W hs c
  rw [show 8 * 6 = 48 from rfl] at h6
  generalize numS s 48 = x6 at h6 ⊢
  go_enter Try.func14, Try.ntmps14
  go_wp2_with fail
  refine (h0 _ C0.out).mono ?_
  rintro e X ⟨rfl, rfl⟩
  go_wp2_with fail
  refine (h1 _ C0.out).mono ?_
  rintro e X ⟨rfl, rfl⟩
  go_wp2_with fail
  refine (h2 _ C0.out).mono ?_
  rintro e X ⟨rfl, rfl⟩
  go_wp2_with fail
  refine (h3 _ C0.out).mono ?_
  rintro e X ⟨rfl, rfl⟩
  go_wp2_with fail
  refine (h4 _ C0.out).mono ?_
  rintro e X ⟨rfl, rfl⟩
  go_wp2_with fail
  refine (h5 _ C0.out).mono ?_
  rintro e X ⟨rfl, rfl⟩
  go_wp2_with fail
  refine (h6 _ C0.out).mono ?_
  rintro e X ⟨rfl, rfl⟩
  go_wp2_with (with_reducible refine post_stop ?_)
  refine ⟨bodyPost_ret (v := .agg #[.int .i64 x0, .int .i64 x1, .int .i64 x2, .int .i64 x3, .int .i64 x4, .int .i64 x5, .int .i64 x6]) (by simp [results, Try.results14, asAddr, go_sem]) rfl ⟨rfl, ?_⟩⟩
  exact bel_al (bel_al (Below.refl _ _) _) _
set_option maxHeartbeats 4000000 in
set_option maxRecDepth 100000 in
theorem wels_any (B : Nat) (v : Value) (l : List Int) (o : V7) (w : World) (hO : Bytes B w v l) (hB : B ≤ w.heap.size) (hl : l.length ≤ 20) :
    Calls Try.prog 11 #[v, .agg #[.int .i64 o.1, .int .i64 o.2.1, .int .i64 o.2.2.1, .int .i64 o.2.2.2.1, .int .i64 o.2.2.2.2.1, .int .i64 o.2.2.2.2.2.1, .int .i64 o.2.2.2.2.2.2]] w fun e w' => ∃ v', e = .returned v' ∧ Bytes B w' v' (elsL l (v7F o) 7) ∧ Below B w w' ∧ w.heap.size ≤ w'.heap.size := by
  have O0 : Bytes B (w.alloc (.cells #[.int .i64 o.1, .int .i64 o.2.1, .int .i64 o.2.2.1, .int .i64 o.2.2.2.1, .int .i64 o.2.2.2.2.1, .int .i64 o.2.2.2.2.2.1, .int .i64 o.2.2.2.2.2.2] 23)) v (elsL l (v7F o) 0) := hO.same ((Below.refl _ _).alloc (Nat.le_refl _) _)
  have B0 : B ≤ (w.alloc (.cells #[.int .i64 o.1, .int .i64 o.2.1, .int .i64 o.2.2.1, .int .i64 o.2.2.2.1, .int .i64 o.2.2.2.2.1, .int .i64 o.2.2.2.2.2.1, .int .i64 o.2.2.2.2.2.2] 23)).heap.size := by simp; omega
  have L0 : Below B w (w.alloc (.cells #[.int .i64 o.1, .int .i64 o.2.1, .int .i64 o.2.2.1, .int .i64 o.2.2.2.1, .int .i64 o.2.2.2.2.1, .int .i64 o.2.2.2.2.2.1, .int .i64 o.2.2.2.2.2.2] 23)) := (Below.refl B w).alloc hB _
  go_enter Try.func11, Try.ntmps11
  go_wp2_with fail
  refine wp_loop_rounds 8 ?_
  rw [rounds_succ]
  go_wp2_with fail
  refine (wnum_any B v (elsL l (v7F o) 0) o.1 _ O0 B0 (by rw [elsL_len]; omega)).mono ?_
  rintro e X1 ⟨v1, rfl, o1, k1, s1⟩
  have z1 := Nat.le_trans B0 s1
  have o1 : Bytes B X1 v1 (elsL l (v7F o) 1) := o1
  go_wp2_with fail
  rw [rounds_succ]
  go_wp2_with fail
  refine (wnum_any B v1 (elsL l (v7F o) 1) o.2.1 _ o1 z1 (by rw [elsL_len]; omega)).mono ?_
  rintro e X2 ⟨v2, rfl, o2, k2, s2⟩
  have z2 := Nat.le_trans z1 s2
  have o2 : Bytes B X2 v2 (elsL l (v7F o) 2) := o2
  have k2 := k1.trans k2
  have s2 := Nat.le_trans s1 s2
  clear k1 s1 o1 z1
  go_wp2_with fail
  rw [rounds_succ]
  go_wp2_with fail
  refine (wnum_any B v2 (elsL l (v7F o) 2) o.2.2.1 _ o2 z2 (by rw [elsL_len]; omega)).mono ?_
  rintro e X3 ⟨v3, rfl, o3, k3, s3⟩
  have z3 := Nat.le_trans z2 s3
  have o3 : Bytes B X3 v3 (elsL l (v7F o) 3) := o3
  have k3 := k2.trans k3
  have s3 := Nat.le_trans s2 s3
  clear k2 s2 o2 z2
  go_wp2_with fail
  rw [rounds_succ]
  go_wp2_with fail
  refine (wnum_any B v3 (elsL l (v7F o) 3) o.2.2.2.1 _ o3 z3 (by rw [elsL_len]; omega)).mono ?_
  rintro e X4 ⟨v4, rfl, o4, k4, s4⟩
  have z4 := Nat.le_trans z3 s4
  have o4 : Bytes B X4 v4 (elsL l (v7F o) 4) := o4
  have k4 := k3.trans k4
  have s4 := Nat.le_trans s3 s4
  clear k3 s3 o3 z3
  go_wp2_with fail
  rw [rounds_succ]
  go_wp2_with fail
  refine (wnum_any B v4 (elsL l (v7F o) 4) o.2.2.2.2.1 _ o4 z4 (by rw [elsL_len]; omega)).mono ?_
  rintro e X5 ⟨v5, rfl, o5, k5, s5⟩
  have z5 := Nat.le_trans z4 s5
  have o5 : Bytes B X5 v5 (elsL l (v7F o) 5) := o5
  have k5 := k4.trans k5
  have s5 := Nat.le_trans s4 s5
  clear k4 s4 o4 z4
  go_wp2_with fail
  rw [rounds_succ]
  go_wp2_with fail
  refine (wnum_any B v5 (elsL l (v7F o) 5) o.2.2.2.2.2.1 _ o5 z5 (by rw [elsL_len]; omega)).mono ?_
  rintro e X6 ⟨v6, rfl, o6, k6, s6⟩
  have z6 := Nat.le_trans z5 s6
  have o6 : Bytes B X6 v6 (elsL l (v7F o) 6) := o6
  have k6 := k5.trans k6
  have s6 := Nat.le_trans s5 s6
  clear k5 s5 o5 z5
  go_wp2_with fail
  rw [rounds_succ]
  go_wp2_with fail
  refine (wnum_any B v6 (elsL l (v7F o) 6) o.2.2.2.2.2.2 _ o6 z6 (by rw [elsL_len]; omega)).mono ?_
  rintro e X7 ⟨v7, rfl, o7, k7, s7⟩
  have z7 := Nat.le_trans z6 s7
  have o7 : Bytes B X7 v7 (elsL l (v7F o) 7) := o7
  have k7 := k6.trans k7
  have s7 := Nat.le_trans s6 s7
  clear k6 s6 o6 z6
  go_wp2_with fail
  rw [rounds_succ]
  go_wp2_with (with_reducible refine post_stop ?_)
  exact ⟨bodyPost_ret (v := v7) (by simp [results, Try.results11, go_sem]) rfl ⟨v7, rfl, o7, L0.trans k7, by have := s7; simp at this; omega⟩⟩
end Go.Proofs.Ytpceomcnknjiiaa
