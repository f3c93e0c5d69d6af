/-
  Orders: the reference's Write, walked, for the seat Ytpceomcnknjiiaa. (Made by mkod.py.)
-/
import Derived.Test.YtpceomcnknjiiaaOdRA
import Derived.Test.YtpceomcnknjiiaaORRight
namespace Go.Proofs.Ytpceomcnknjiiaa
open Go.RowKit

theorem app_kept {ops : Array Oper} {rest : List Oper} {o : Oper} {a : Act} {Q : Exit → Act → World → Prop} (hgd : o.guard = none) (s x : Operand)
    (ho : o.op = .call { callee := .builtin .append, args := #[s, x], argTypes := #[36, 36] }) (B : Nat) (v : Value) (l news : List Int) (w0 : World) (hs : a.eval s = v) (hown : Bytes B w0 v l)
    (hx : a.eval x = .slice (some ⟨w0.heap.size, 0, none⟩) news.length news.length) (hl : l.length + news.length ≤ 100) (hB : B ≤ w0.heap.size)
    (h : ∀ v' w', Bytes B w' v' (l ++ news) → Below B w0 w' → w0.heap.size ≤ w'.heap.size → (∀ (k : Nat) (arr : Array Value) (t : TypeId) (z : Nat × Nat), t ≠ 5 → w0.heap[k]? = some (Obj.cells arr t z) → w'.heap[k]? = some (Obj.cells arr t z)) → wpList Try.prog ops Q rest (a.put o.dst v') w') : wpList Try.prog ops Q (o :: rest) a (w0.alloc (.cells (u8s news).toArray 5)) := by
  obtain ⟨i, hi, hz, hsz, hby⟩ := info_byte
  have hown' := hown.same ((Below.refl _ _).alloc (Nat.le_refl _) (.cells (u8s news).toArray 5))
  refine wpList_append_own _ hgd s x 36 ho B 5 i (.int .u8 0) 1 1 Try.underlying36 hi hz hsz hby rfl (by decide) v l.length (u8s l) hs hown' ⟨w0.heap.size, 0, none⟩ news.length news.length (u8s news) hx (by simp [u8s]) ?_ ?_ (by unfold maxLen; omega) (by omega) (by simp; omega) ?_
  · intro j u hj
    have A := Arr_at w0 w0.heap.size (u8s news) 5 rfl
    obtain ⟨hj', rfl⟩ := List.getElem?_eq_some_iff.1 hj
    rw [add_off]
    exact A.c j hj'
  · intro u hu
    unfold u8s at hu
    obtain ⟨b, _, rfl⟩ := List.mem_map.1 hu
    rfl
  · intro v' w' h1 h2 _
    have hbel : Below B w0 w' := ((Below.refl B w0).alloc hB _).grown h2 (by simp; omega) (fun k hk => (World.ownsRow.lt hown k hk).1)
    refine h v' w' ?_ hbel (by have := h2.size; simp at this; omega) ?_
    · show w'.ownsRow B 5 1 v' (l ++ news).length (u8s (l ++ news))
      rw [List.length_append, show u8s (l ++ news) = u8s l ++ u8s news by simp [u8s]]
      exact h1
    · intro k arr t z ht hk
      have hlt : k < w0.heap.size := (Array.getElem?_eq_some_iff.1 hk).1
      rw [h2.block k (by simp; omega) ?_]
      · have hb := (Below.refl w0.heap.size w0).alloc (Nat.le_refl _) (.cells (u8s news).toArray 5)
        rw [hb.block k hlt]
        exact hk
      · intro e
        rcases hown.2 with ⟨rfl, _⟩ | ⟨g, cap, cur, rfl, _, hg, _⟩
        · cases e
        · have e : k = g := Option.some.inj e
          subst e
          rw [hk] at hg
          cases hg
          exact ht rfl
theorem cell_in {W : World} {k : Nat} {ef : Nat → Int} {t : TypeId} (h : W.heap[k]? = some (.cells (row 7 ef).toArray t (0, 0))) (j : Nat) (hj : j < 7) : W.cell? ⟨k, j, none⟩ = some (.int .i64 (ef j)) := by
  unfold World.cell?
  rw [h]
  have := row_get (N := 7) (g := ef) (i := j) (by rw [row_len]; exact hj)
  simp [row, hj]
set_option maxHeartbeats 4000000 in
set_option maxRecDepth 100000 in
theorem rorder_long (q c : Int) (o : V7) (w : World) (h0 : 0 ≤ q) (h1 : q ≤ 255) (h3 : c = 3) (hR : oRightC o = true) :
    Calls Try.prog 7 #[.agg #[.int .i64 q, .int .i64 c, .int .i64 o.1, .int .i64 o.2.1, .int .i64 o.2.2.1, .int .i64 o.2.2.2.1, .int .i64 o.2.2.2.2.1, .int .i64 o.2.2.2.2.2.1, .int .i64 o.2.2.2.2.2.2]] w fun e w' => e = .returned (.tuple #[.agg #[.int .i64 16, .string (strOf (ordL q c o))], .bool true]) ∧ Below w.heap.size w w' := by
  subst h3
  have hr := pRight_any o
  rw [hR] at hr
  have w1 : IntKind.u8.wrap q = q := by rw [IntKind.wrap_u8]; omega
  have HL : Hid (ordL q 3 o = elsL [q, 3] (v7F o) 7) := rfl
  have O0 := bytes2 ((w.alloc (.cells #[.int .i64 q, .int .i64 3, .int .i64 o.1, .int .i64 o.2.1, .int .i64 o.2.2.1, .int .i64 o.2.2.2.1, .int .i64 o.2.2.2.2.1, .int .i64 o.2.2.2.2.2.1, .int .i64 o.2.2.2.2.2.2] 25)).alloc (.cells #[.int .i64 0, .string ⟨#[]⟩] 28)) (w.heap.size + 2) (w.heap.size + 1 + 1) q 3 (by simp) (by simp)
  rw [HL.out]
  generalize hS : strOf (elsL [q, 3] (v7F o) 7) = S
  have HS : Hid (strOf (elsL [q, 3] (v7F o) 7) = S) := hS
  clear hS
  go_enter Try.func7, Try.ntmps7
  go_wp2_with fail
  refine (hr _).mono ?_
  rintro e W1 ⟨rfl, b1⟩
  have L1 := bel_then (bel_al (bel_al (bel_al (Below.refl _ w) _) _) _) b1
  have A1 := (((Arr_at w w.heap.size [.int .i64 q, .int .i64 3, .int .i64 o.1, .int .i64 o.2.1, .int .i64 o.2.2.1, .int .i64 o.2.2.2.1, .int .i64 o.2.2.2.2.1, .int .i64 o.2.2.2.2.2.1, .int .i64 o.2.2.2.2.2.2] 25 rfl).alloc (.cells #[.int .i64 0, .string ⟨#[]⟩] 28)).alloc (.cells #[.int .u8 q, .int .u8 3] 5)).below b1
  have R1 := ((Arr_at (w.alloc (.cells #[.int .i64 q, .int .i64 3, .int .i64 o.1, .int .i64 o.2.1, .int .i64 o.2.2.1, .int .i64 o.2.2.2.1, .int .i64 o.2.2.2.2.1, .int .i64 o.2.2.2.2.2.1, .int .i64 o.2.2.2.2.2.2] 25)) (w.heap.size + 1) [.int .i64 0, .string ⟨#[]⟩] 28 (by simp)).alloc (.cells #[.int .u8 q, .int .u8 3] 5)).below b1
  have O1 := O0.same b1
  clear O0
  have z1 := L1.size
  have rz1 := R1.lies
  have az1 := A1.lies
  have a2 : W1.cell? ⟨w.heap.size, 2, none⟩ = some (.int .i64 o.1) := A1.c 2 (of_decide_eq_true rfl)
  have a3 : W1.cell? ⟨w.heap.size, 3, none⟩ = some (.int .i64 o.2.1) := A1.c 3 (of_decide_eq_true rfl)
  have a4 : W1.cell? ⟨w.heap.size, 4, none⟩ = some (.int .i64 o.2.2.1) := A1.c 4 (of_decide_eq_true rfl)
  have a5 : W1.cell? ⟨w.heap.size, 5, none⟩ = some (.int .i64 o.2.2.2.1) := A1.c 5 (of_decide_eq_true rfl)
  have a6 : W1.cell? ⟨w.heap.size, 6, none⟩ = some (.int .i64 o.2.2.2.2.1) := A1.c 6 (of_decide_eq_true rfl)
  have a7 : W1.cell? ⟨w.heap.size, 7, none⟩ = some (.int .i64 o.2.2.2.2.2.1) := A1.c 7 (of_decide_eq_true rfl)
  have a8 : W1.cell? ⟨w.heap.size, 8, none⟩ = some (.int .i64 o.2.2.2.2.2.2) := A1.c 8 (of_decide_eq_true rfl)
  clear b1 A1
  have T1 : ((W1.alloc (.cells #[.int .i64 o.1, .int .i64 o.2.1, .int .i64 o.2.2.1, .int .i64 o.2.2.2.1, .int .i64 o.2.2.2.2.1, .int .i64 o.2.2.2.2.2.1, .int .i64 o.2.2.2.2.2.2] 23)).alloc (.cells #[.int .i64 o.1, .int .i64 o.2.1, .int .i64 o.2.2.1, .int .i64 o.2.2.2.1, .int .i64 o.2.2.2.2.1, .int .i64 o.2.2.2.2.2.1, .int .i64 o.2.2.2.2.2.2] 2)).heap[W1.heap.size + 1]? = some (Obj.cells (row 7 (v7F o)).toArray 2 (0, 0)) := by
    have := heap_alloc_new (W1.alloc (.cells #[.int .i64 o.1, .int .i64 o.2.1, .int .i64 o.2.2.1, .int .i64 o.2.2.2.1, .int .i64 o.2.2.2.2.1, .int .i64 o.2.2.2.2.2.1, .int .i64 o.2.2.2.2.2.2] 23)) (.cells #[.int .i64 o.1, .int .i64 o.2.1, .int .i64 o.2.2.1, .int .i64 o.2.2.2.1, .int .i64 o.2.2.2.2.1, .int .i64 o.2.2.2.2.2.1, .int .i64 o.2.2.2.2.2.2] 2)
    simp only [World.size_alloc] at this
    exact this
  have hne : (2 : TypeId) ≠ 5 := by decide
  go_wp2_with fail
  go_loopw [4, 7] (fun bv iv wr => ∃ j : Nat, j ≤ 7 ∧ iv = .int .i64 j ∧ Bytes (w.heap.size + 2) wr bv (elsL [q, 3] (v7F o) j) ∧ Below w.heap.size w wr ∧ Arr (w.heap.size + 1) [.int .i64 0, .string ⟨#[]⟩] wr ∧ wr.heap[W1.heap.size + 1]? = some (Obj.cells (row 7 (v7F o)).toArray 2 (0, 0))) (fun _ iv _ => 7 - (intOf iv).toNat)
  case atStart => exact ⟨0, by omega, rfl, (O1.alloc _).alloc _, bel_al (bel_al L1 _) _, (R1.alloc _).alloc _, T1⟩
  case round =>
    obtain ⟨j, hj, rfl, O3, L3, R3, T3⟩ := hrel
    have Rz3' := R3.lies
    have Rz3 : w.heap.size + 2 ≤ wr.heap.size := by omega
    clear a2 a3 a4 a5 a6 a7 a8 O1 L1 R1 T1 z1 rz1 az1
    by_cases hj7 : j < 7
    · have i0 := cell_in T3 j hj7
      have HN : Hid (elsL [q, 3] (v7F o) (j + 1) = elsL [q, 3] (v7F o) j ++ numL (v7F o j)) := rfl
      have hlt := elsL_len [q, 3] (v7F o) j
      have hlt : (elsL [q, 3] (v7F o) j).length ≤ 50 := by rw [hlt]; simp; omega
      have cell_in := fun (W : World) (h : W.heap[W1.heap.size + 1]? = some (Obj.cells (row 7 (v7F o)).toArray 2 (0, 0))) => cell_in h j hj7
      generalize elsL [q, 3] (v7F o) j = l at O3 HN hlt
      generalize v7F o j = n at i0 HN cell_in
      have CI : Hid (∀ (W : World), W.heap[W1.heap.size + 1]? = some (Obj.cells (row 7 (v7F o)).toArray 2 (0, 0)) → W.cell? ⟨W1.heap.size + 1, j, none⟩ = some (.int .i64 n)) := cell_in
      clear cell_in
      go_wp2_with fail
      refine wp_loop_rounds 9 ?_
      rw [rounds_succ]
      go_wp2_with (at_builtin; refine app_kept rfl (.tmp 70) (.tmp 80) rfl (w.heap.size + 2) u4 l [IntKind.u8.wrap (IntKind.u64.wrap n / 72057594037927936)] wr rfl O3 rfl (by simp; omega) Rz3 ?_; intro v1 w1 o1 b1 s1 K1; have t1 := K1 _ _ _ _ hne T3; have i1 := CI.out _ t1)
      have z1 : w.heap.size + 2 ≤ w1.heap.size := Nat.le_trans Rz3 s1
      rw [rounds_succ]
      go_wp2_with (at_builtin; refine app_kept rfl (.tmp 70) (.tmp 80) rfl (w.heap.size + 2) v1 (l ++ [IntKind.u8.wrap (IntKind.u64.wrap n / 72057594037927936)]) [IntKind.u8.wrap (IntKind.u64.wrap n / 281474976710656)] w1 rfl o1 rfl (by simp; omega) z1 ?_; intro v2 w2 o2 b2 s2 K2; have t2 := K2 _ _ _ _ hne t1; have i2 := CI.out _ t2)
      have z2 : w.heap.size + 2 ≤ w2.heap.size := Nat.le_trans z1 s2
      have b2 := b1.trans b2
      have s2 := Nat.le_trans s1 s2
      clear b1 s1 o1 z1 K1 t1 i1
      rw [List.append_assoc] at o2
      simp only [List.cons_append, List.nil_append] at o2
      rw [rounds_succ]
      go_wp2_with (at_builtin; refine app_kept rfl (.tmp 70) (.tmp 80) rfl (w.heap.size + 2) v2 (l ++ [IntKind.u8.wrap (IntKind.u64.wrap n / 72057594037927936), IntKind.u8.wrap (IntKind.u64.wrap n / 281474976710656)]) [IntKind.u8.wrap (IntKind.u64.wrap n / 1099511627776)] w2 rfl o2 rfl (by simp; omega) z2 ?_; intro v3 w3 o3 b3 s3 K3; have t3 := K3 _ _ _ _ hne t2; have i3 := CI.out _ t3)
      have z3 : w.heap.size + 2 ≤ w3.heap.size := Nat.le_trans z2 s3
      have b3 := b2.trans b3
      have s3 := Nat.le_trans s2 s3
      clear b2 s2 o2 z2 K2 t2 i2
      rw [List.append_assoc] at o3
      simp only [List.cons_append, List.nil_append] at o3
      rw [rounds_succ]
      go_wp2_with (at_builtin; refine app_kept rfl (.tmp 70) (.tmp 80) rfl (w.heap.size + 2) v3 (l ++ [IntKind.u8.wrap (IntKind.u64.wrap n / 72057594037927936), IntKind.u8.wrap (IntKind.u64.wrap n / 281474976710656), IntKind.u8.wrap (IntKind.u64.wrap n / 1099511627776)]) [IntKind.u8.wrap (IntKind.u64.wrap n / 4294967296)] w3 rfl o3 rfl (by simp; omega) z3 ?_; intro v4 w4 o4 b4 s4 K4; have t4 := K4 _ _ _ _ hne t3; have i4 := CI.out _ t4)
      have z4 : w.heap.size + 2 ≤ w4.heap.size := Nat.le_trans z3 s4
      have b4 := b3.trans b4
      have s4 := Nat.le_trans s3 s4
      clear b3 s3 o3 z3 K3 t3 i3
      rw [List.append_assoc] at o4
      simp only [List.cons_append, List.nil_append] at o4
      rw [rounds_succ]
      go_wp2_with (at_builtin; refine app_kept rfl (.tmp 70) (.tmp 80) rfl (w.heap.size + 2) v4 (l ++ [IntKind.u8.wrap (IntKind.u64.wrap n / 72057594037927936), IntKind.u8.wrap (IntKind.u64.wrap n / 281474976710656), IntKind.u8.wrap (IntKind.u64.wrap n / 1099511627776), IntKind.u8.wrap (IntKind.u64.wrap n / 4294967296)]) [IntKind.u8.wrap (IntKind.u64.wrap n / 16777216)] w4 rfl o4 rfl (by simp; omega) z4 ?_; intro v5 w5 o5 b5 s5 K5; have t5 := K5 _ _ _ _ hne t4; have i5 := CI.out _ t5)
      have z5 : w.heap.size + 2 ≤ w5.heap.size := Nat.le_trans z4 s5
      have b5 := b4.trans b5
      have s5 := Nat.le_trans s4 s5
      clear b4 s4 o4 z4 K4 t4 i4
      rw [List.append_assoc] at o5
      simp only [List.cons_append, List.nil_append] at o5
      rw [rounds_succ]
      go_wp2_with (at_builtin; refine app_kept rfl (.tmp 70) (.tmp 80) rfl (w.heap.size + 2) v5 (l ++ [IntKind.u8.wrap (IntKind.u64.wrap n / 72057594037927936), IntKind.u8.wrap (IntKind.u64.wrap n / 281474976710656), IntKind.u8.wrap (IntKind.u64.wrap n / 1099511627776), IntKind.u8.wrap (IntKind.u64.wrap n / 4294967296), IntKind.u8.wrap (IntKind.u64.wrap n / 16777216)]) [IntKind.u8.wrap (IntKind.u64.wrap n / 65536)] w5 rfl o5 rfl (by simp; omega) z5 ?_; intro v6 w6 o6 b6 s6 K6; have t6 := K6 _ _ _ _ hne t5; have i6 := CI.out _ t6)
      have z6 : w.heap.size + 2 ≤ w6.heap.size := Nat.le_trans z5 s6
      have b6 := b5.trans b6
      have s6 := Nat.le_trans s5 s6
      clear b5 s5 o5 z5 K5 t5 i5
      rw [List.append_assoc] at o6
      simp only [List.cons_append, List.nil_append] at o6
      rw [rounds_succ]
      go_wp2_with (at_builtin; refine app_kept rfl (.tmp 70) (.tmp 80) rfl (w.heap.size + 2) v6 (l ++ [IntKind.u8.wrap (IntKind.u64.wrap n / 72057594037927936), IntKind.u8.wrap (IntKind.u64.wrap n / 281474976710656), IntKind.u8.wrap (IntKind.u64.wrap n / 1099511627776), IntKind.u8.wrap (IntKind.u64.wrap n / 4294967296), IntKind.u8.wrap (IntKind.u64.wrap n / 16777216), IntKind.u8.wrap (IntKind.u64.wrap n / 65536)]) [IntKind.u8.wrap (IntKind.u64.wrap n / 256)] w6 rfl o6 rfl (by simp; omega) z6 ?_; intro v7 w7 o7 b7 s7 K7; have t7 := K7 _ _ _ _ hne t6; have i7 := CI.out _ t7)
      have z7 : w.heap.size + 2 ≤ w7.heap.size := Nat.le_trans z6 s7
      have b7 := b6.trans b7
      have s7 := Nat.le_trans s6 s7
      clear b6 s6 o6 z6 K6 t6 i6
      rw [List.append_assoc] at o7
      simp only [List.cons_append, List.nil_append] at o7
      rw [rounds_succ]
      go_wp2_with (at_builtin; refine app_kept rfl (.tmp 70) (.tmp 80) rfl (w.heap.size + 2) v7 (l ++ [IntKind.u8.wrap (IntKind.u64.wrap n / 72057594037927936), IntKind.u8.wrap (IntKind.u64.wrap n / 281474976710656), IntKind.u8.wrap (IntKind.u64.wrap n / 1099511627776), IntKind.u8.wrap (IntKind.u64.wrap n / 4294967296), IntKind.u8.wrap (IntKind.u64.wrap n / 16777216), IntKind.u8.wrap (IntKind.u64.wrap n / 65536), IntKind.u8.wrap (IntKind.u64.wrap n / 256)]) [IntKind.u8.wrap (IntKind.u64.wrap n)] w7 rfl o7 rfl (by simp; omega) z7 ?_; intro v8 w8 o8 b8 s8 K8; have t8 := K8 _ _ _ _ hne t7; have i8 := CI.out _ t8)
      have z8 : w.heap.size + 2 ≤ w8.heap.size := Nat.le_trans z7 s8
      have b8 := b7.trans b8
      have s8 := Nat.le_trans s7 s8
      clear b7 s7 o7 z7 K7 t7 i7
      rw [List.append_assoc] at o8
      simp only [List.cons_append, List.nil_append] at o8
      rw [rounds_succ]
      go_wp2_with fail
      go_roundw
      case rel => exact ⟨j + 1, by omega, by go_num, by rw [HN.out]; exact o8, L3.trans (b8.mono (by omega)), R3.under b8 (by omega) s8, t8⟩
      case measure => simp [intOf]; omega
    · obtain rfl : j = 7 := by omega
      have hcv := conv_any O3 (by intro h; have := congrArg List.length h; rw [elsL_len] at this; simp at this) (elsL_rng (by intro b hb; simp only [List.mem_cons, List.not_mem_nil, or_false] at hb; rcases hb with rfl | rfl <;> omega) _ 7)
      rw [HS.out] at hcv
      clear O3
      have c0 : wr.cell? ⟨w.heap.size + 1, 0, none⟩ = some (.int .i64 0) := R3.c 0 (of_decide_eq_true rfl)
      have c1 : wr.cell? ⟨w.heap.size + 1, 1, none⟩ = some (.string ⟨#[]⟩) := R3.c 1 (of_decide_eq_true rfl)
      have f0 := R3.f 0 (of_decide_eq_true rfl)
      have f1 := R3.f 1 (of_decide_eq_true rfl)
      go_wp2_with (with_reducible refine post_stop ?_)
      have d0 := Arr.c ((R3.put 0 (of_decide_eq_true rfl) (.int .i64 16) [.int .i64 16, .string ⟨#[]⟩] rfl).put 1 (of_decide_eq_true rfl) (.string S) [.int .i64 16, .string S] rfl) 0 (of_decide_eq_true rfl)
      have d1 := Arr.c ((R3.put 0 (of_decide_eq_true rfl) (.int .i64 16) [.int .i64 16, .string ⟨#[]⟩] rfl).put 1 (of_decide_eq_true rfl) (.string S) [.int .i64 16, .string S] rfl) 1 (of_decide_eq_true rfl)
      simp only [List.getElem_cons_zero, List.getElem_cons_succ] at d0 d1
      exact ⟨bodyPost_ret (v := .tuple #[.agg #[.int .i64 16, .string S], .bool true]) (by simp [results_cell_tmp Try.results7, asAddr, go_sem, d0, d1]) rfl ⟨rfl, bel_new (bel_new L3 _ _ (by omega) _) _ _ (by omega) _⟩⟩
end Go.Proofs.Ytpceomcnknjiiaa
