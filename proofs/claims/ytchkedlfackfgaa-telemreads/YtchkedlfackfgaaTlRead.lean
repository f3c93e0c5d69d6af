/-
  Telem: Read, walked, for the seat Ytchkedlfackfgaa. (Made by mktl.py.)
-/
import Derived.Test.YtchkedlfackfgaaTlOk
import Derived.Deep.Cut
namespace Go.Proofs.Ytchkedlfackfgaa
open Go.RowKit

set_option maxHeartbeats 4000000 in
set_option maxRecDepth 100000 in
theorem tread_kind (k : Int) (s : ByteArray) (w : World) (h : k ≠ 32) :
    Calls Try.prog 9 #[.agg #[.int .i64 k, .string s]] w fun e w' => e = .returned (.tuple #[.agg #[.int .i64 0, .int .i64 0, .int .i64 0, .int .i64 0, .int .i64 0, .int .i64 0, .int .i64 0, .int .i64 0, .int .i64 0, .int .i64 0, .int .i64 0, .int .i64 0, .int .i64 0], .bool false]) ∧ Below w.heap.size w w' := by
  have h' : (k != 32) = true := by simpa using h
  go_enter Try.func9, Try.ntmps9
  go_wp2_with (with_reducible refine post_stop ?_)
  exact ⟨bodyPost_ret (v := .tuple #[.agg #[.int .i64 0, .int .i64 0, .int .i64 0, .int .i64 0, .int .i64 0, .int .i64 0, .int .i64 0, .int .i64 0, .int .i64 0, .int .i64 0, .int .i64 0, .int .i64 0, .int .i64 0], .bool false]) (by simp [results_cell_tmp Try.results9, asAddr, go_sem]) rfl ⟨rfl, bel_al (bel_al (Below.refl _ _) _) _⟩⟩
set_option maxHeartbeats 4000000 in
set_option maxRecDepth 100000 in
theorem tread_size (s : ByteArray) (w : World) (h : s.size ≠ 26) :
    Calls Try.prog 9 #[.agg #[.int .i64 32, .string s]] w fun e w' => e = .returned (.tuple #[.agg #[.int .i64 0, .int .i64 0, .int .i64 0, .int .i64 0, .int .i64 0, .int .i64 0, .int .i64 0, .int .i64 0, .int .i64 0, .int .i64 0, .int .i64 0, .int .i64 0, .int .i64 0], .bool false]) ∧ Below w.heap.size w w' := by
  have h' : (((s.size : Nat) : Int) != 26) = true := by simp; omega
  go_enter Try.func9, Try.ntmps9
  go_wp2_with (with_reducible refine post_stop ?_)
  exact ⟨bodyPost_ret (v := .tuple #[.agg #[.int .i64 0, .int .i64 0, .int .i64 0, .int .i64 0, .int .i64 0, .int .i64 0, .int .i64 0, .int .i64 0, .int .i64 0, .int .i64 0, .int .i64 0, .int .i64 0, .int .i64 0], .bool false]) (by simp [results_cell_tmp Try.results9, asAddr, go_sem]) rfl ⟨rfl, bel_al (bel_al (Below.refl _ _) _) _⟩⟩
set_option maxHeartbeats 4000000 in
set_option maxRecDepth 100000 in
theorem tread_not (s : ByteArray) (w : World) (hs : s.size = 26) (h : tlOk (tlE s) = false) :
    Calls Try.prog 9 #[.agg #[.int .i64 32, .string s]] w fun e w' => e = .returned (.tuple #[.agg #[.int .i64 0, .int .i64 0, .int .i64 0, .int .i64 0, .int .i64 0, .int .i64 0, .int .i64 0, .int .i64 0, .int .i64 0, .int .i64 0, .int .i64 0, .int .i64 0, .int .i64 0], .bool false]) ∧ Below w.heap.size w w' := by
  have hm : ∀ W : World, Calls Try.prog 13 #[.agg #[.int .i64 (tickS s), .int .i64 (bt s 6 : Nat), .int .i64 (bt s 7 : Nat), .int .i64 (bt s 8 : Nat), .int .i64 (bt s 9 : Nat), .int .i64 (cnt s 10 : Nat), .int .i64 (sg (cnt s 12)), .int .i64 (sg (cnt s 14)), .int .i64 (sg (cnt s 16)), .int .i64 (sg (cnt s 18)), .int .i64 (sg (cnt s 20)), .int .i64 (sg (cnt s 22)), .int .i64 (sg (cnt s 24))]] W fun e w' => e = .returned (.bool (tlOk (tlE s))) ∧ Below W.heap.size W w' := mayTell_any (tlE s)
  rw [h] at hm
  clear h
  have hj := fun W => tjoined_any (s.extract 0 6) W (by rw [ByteArray.size_extract]; omega)
  rw [tick_head] at hj
  have hp := fun W => tpair_any s 10 10 W rfl (by omega) (by omega)
  have hs0 := fun W => tsigned_any s 12 12 W rfl (by omega) (by omega)
  have hs1 := fun W => tsigned_any s 14 14 W rfl (by omega) (by omega)
  have hs2 := fun W => tsigned_any s 16 16 W rfl (by omega) (by omega)
  have hs3 := fun W => tsigned_any s 18 18 W rfl (by omega) (by omega)
  have hs4 := fun W => tsigned_any s 20 20 W rfl (by omega) (by omega)
  have hs5 := fun W => tsigned_any s 22 22 W rfl (by omega) (by omega)
  have hs6 := fun W => tsigned_any s 24 24 W rfl (by omega) (by omega)
  have i6 := idx_run (s := s) (i := 6) (n := 6) (by omega) rfl
  have i7 := idx_run (s := s) (i := 7) (n := 7) (by omega) rfl
  have i8 := idx_run (s := s) (i := 8) (n := 8) (by omega) rfl
  have i9 := idx_run (s := s) (i := 9) (n := 9) (by omega) rfl
  have hsl : ∀ W : World, (Instr.slice 9 (.string s) none (some (.int .i64 6)) none).run Try.prog W = .ok (.string (s.extract 0 6)) W := fun W => by
    rw [run_slice_string_to_if W 9 s .i64 6 Try.underlying9, if_pos (by omega)]
    rfl
  generalize s.extract 0 6 = y at *
  have l6 := bt_lt s 6
  have l7 := bt_lt s 7
  have l8 := bt_lt s 8
  have l9 := bt_lt s 9
  have l10 := cnt_lt s 10
  generalize tickS s = x0 at *
  generalize bt s 6 = y1 at *
  generalize bt s 7 = y2 at *
  generalize bt s 8 = y3 at *
  generalize bt s 9 = y4 at *
  generalize cnt s 10 = y5 at *
  generalize sg (cnt s 12) = x6 at *
  generalize sg (cnt s 14) = x7 at *
  generalize sg (cnt s 16) = x8 at *
  generalize sg (cnt s 18) = x9 at *
  generalize sg (cnt s 20) = x10 at *
  generalize sg (cnt s 22) = x11 at *
  generalize sg (cnt s 24) = x12 at *
  have u1 : IntKind.i64.wrap (y1 : Int) = y1 := by rw [IntKind.wrap_i64]; omega
  have u2 : IntKind.i64.wrap (y2 : Int) = y2 := by rw [IntKind.wrap_i64]; omega
  have u3 : IntKind.i64.wrap (y3 : Int) = y3 := by rw [IntKind.wrap_i64]; omega
  have u4 : IntKind.i64.wrap (y4 : Int) = y4 := by rw [IntKind.wrap_i64]; omega
  have u5 : IntKind.i64.wrap (y5 : Int) = y5 := by rw [IntKind.wrap_i64]; omega
  clear l6
  generalize (y1 : Int) = x1 at *
  clear l7
  generalize (y2 : Int) = x2 at *
  clear l8
  generalize (y3 : Int) = x3 at *
  clear l9
  generalize (y4 : Int) = x4 at *
  clear l10
  generalize (y5 : Int) = x5 at *
  go_enter Try.func9, Try.ntmps9
  go_upto_region 4 with fail
  go_cut [5] from 8 (fun p wx => p = .pointer (some ⟨w.heap.size + 1 + 1, 0, none⟩) ∧ wx = (((w.alloc (.cells #[.int .i64 32, .string s] 28)).alloc (.cells #[.int .i64 0, .int .i64 0, .int .i64 0, .int .i64 0, .int .i64 0, .int .i64 0, .int .i64 0, .int .i64 0, .int .i64 0, .int .i64 0, .int .i64 0, .int .i64 0, .int .i64 0] 25)).alloc (.cells #[.int .i64 x0, .int .i64 x1, .int .i64 x2, .int .i64 x3, .int .i64 x4, .int .i64 x5, .int .i64 0, .int .i64 0, .int .i64 0, .int .i64 0, .int .i64 0, .int .i64 0, .int .i64 0] 25)).drew.drew)
  case first =>
    refine wp_region_held_drew (S := fun _ => True) (by kernel_rfl) trivial (fun hHeld => ?_)
    refine take_at (i := 0) (v := ?v1) rfl (by kernel_rfl) (by kernel_rfl) (by kernel_rfl) (fun _ _ _ h => h) (Or.inl ⟨by rfl, ?y1⟩) hHeld ?t1
    case y1 => (intro wx hSw; go_simp <;> with_reducible rfl)
    simp only [Act.put, List.setIfInBounds_toArray, List.set_cons_zero, List.set_cons_succ]
    refine take_at (i := 1) (v := ?v2) rfl (by kernel_rfl) (by kernel_rfl) (by kernel_rfl) (fun _ _ _ h => h) (Or.inl ⟨by rfl, ?y2⟩) hHeld ?t2
    case y2 => (intro wx hSw; go_simp <;> with_reducible rfl)
    simp only [Act.put, List.setIfInBounds_toArray, List.set_cons_zero, List.set_cons_succ]
    refine take_at (i := 3) (v := ?v3) rfl (by kernel_rfl) (by kernel_rfl) (by kernel_rfl) (fun _ _ _ h => h) (Or.inl ⟨by rfl, ?y3⟩) hHeld ?t3
    case y3 => (intro wx hSw; go_simp <;> with_reducible rfl)
    simp only [Act.put, List.setIfInBounds_toArray, List.set_cons_zero, List.set_cons_succ]
    refine take_at (i := 4) (v := ?v4) rfl (by kernel_rfl) (by kernel_rfl) (by kernel_rfl) (fun _ _ _ h => h) (Or.inl ⟨by rfl, ?y4⟩) hHeld ?t4
    case y4 => (intro wx hSw; go_simp <;> with_reducible rfl)
    simp only [Act.put, List.setIfInBounds_toArray, List.set_cons_zero, List.set_cons_succ]
    refine take_at (i := 5) (v := ?v5) rfl (by kernel_rfl) (by kernel_rfl) (by kernel_rfl) (fun _ _ _ h => h) (Or.inl ⟨by rfl, ?y5⟩) hHeld ?t5
    case y5 => (intro wx hSw; go_simp <;> with_reducible rfl)
    simp only [Act.put, List.setIfInBounds_toArray, List.set_cons_zero, List.set_cons_succ]
    refine take_at (i := 6) (v := ?v6) rfl (by kernel_rfl) (by kernel_rfl) (by kernel_rfl) (fun _ _ _ h => h) (Or.inl ⟨by rfl, ?y6⟩) hHeld ?t6
    case y6 => (intro wx hSw; go_simp <;> with_reducible rfl)
    simp only [Act.put, List.setIfInBounds_toArray, List.set_cons_zero, List.set_cons_succ]
    refine take_at (i := 7) (v := ?v7) rfl (by kernel_rfl) (by kernel_rfl) (by kernel_rfl) (fun _ _ _ h => h) (Or.inl ⟨by rfl, ?y7⟩) hHeld ?t7
    case y7 => (intro wx hSw; go_simp <;> with_reducible rfl)
    simp only [Act.put, List.setIfInBounds_toArray, List.set_cons_zero, List.set_cons_succ]
    refine take_at (i := 8) (v := ?v8) rfl (by kernel_rfl) (by kernel_rfl) (by kernel_rfl) (fun _ _ _ h => h) (Or.inl ⟨by rfl, ?y8⟩) hHeld ?t8
    case y8 => (intro wx hSw; go_simp <;> with_reducible rfl)
    simp only [Act.put, List.setIfInBounds_toArray, List.set_cons_zero, List.set_cons_succ]
    refine take_at (i := 9) (v := ?v9) rfl (by kernel_rfl) (by kernel_rfl) (by kernel_rfl) (fun _ _ _ h => h) (Or.inl ⟨by rfl, ?y9⟩) hHeld ?t9
    case y9 => (intro wx hSw; go_simp <;> with_reducible rfl)
    simp only [Act.put, List.setIfInBounds_toArray, List.set_cons_zero, List.set_cons_succ]
    refine take_at (i := 10) (v := ?v10) rfl (by kernel_rfl) (by kernel_rfl) (by kernel_rfl) (fun _ _ _ h => h) (Or.inl ⟨by rfl, ?y10⟩) hHeld ?t10
    case y10 => (intro wx hSw; go_simp <;> with_reducible rfl)
    simp only [Act.put, List.setIfInBounds_toArray, List.set_cons_zero, List.set_cons_succ]
    refine take_at (i := 11) (v := ?v11) rfl (by kernel_rfl) (by kernel_rfl) (by kernel_rfl) (fun _ _ _ h => h) (Or.inl ⟨by rfl, ?y11⟩) hHeld ?t11
    case y11 => (intro wx hSw; go_simp <;> with_reducible rfl)
    simp only [Act.put, List.setIfInBounds_toArray, List.set_cons_zero, List.set_cons_succ]
    refine take_at (i := 12) (v := ?v12) rfl (by kernel_rfl) (by kernel_rfl) (by kernel_rfl) (fun _ _ _ h => h) (Or.inl ⟨by rfl, ?y12⟩) hHeld ?t12
    case y12 => (intro wx hSw; go_simp <;> with_reducible rfl)
    simp only [Act.put, List.setIfInBounds_toArray, List.set_cons_zero, List.set_cons_succ]
    refine take_at (i := 13) (v := ?v13) rfl (by kernel_rfl) (by kernel_rfl) (by kernel_rfl) (fun _ _ _ h => h) (Or.inl ⟨by rfl, ?y13⟩) hHeld ?t13
    case y13 => (intro wx hSw; go_simp <;> with_reducible rfl)
    simp only [Act.put, List.setIfInBounds_toArray, List.set_cons_zero, List.set_cons_succ]
    refine take_at (i := 14) (v := ?v14) rfl (by kernel_rfl) (by kernel_rfl) (by kernel_rfl) (fun _ _ _ h => h) (Or.inl ⟨by rfl, ?y14⟩) hHeld ?t14
    case y14 => (intro wx hSw; go_simp <;> with_reducible rfl)
    simp only [Act.put, List.setIfInBounds_toArray, List.set_cons_zero, List.set_cons_succ]
    refine take_at (i := 15) (v := ?v15) rfl (by kernel_rfl) (by kernel_rfl) (by kernel_rfl) (fun _ _ _ h => h) (Or.inl ⟨by rfl, ?y15⟩) hHeld ?t15
    case y15 => (intro wx hSw; go_simp <;> with_reducible rfl)
    simp only [Act.put, List.setIfInBounds_toArray, List.set_cons_zero, List.set_cons_succ]
    refine call_at2 (i0 := 2) (i1 := 19) (by kernel_rfl) rfl rfl (fun K hK => ?_) (fun K hK => ?_)
    · go_simp
      refine (hj _).mono ?_
      rintro e X ⟨rfl, rfl⟩
      clear hHeld
      refine hK.out _ _ trivial (fun hHeld => ?_)
      clear hK K
      refine call_at2 (i0 := 16) (i1 := 19) (by kernel_rfl) rfl rfl (fun K hK => ?_) (fun K hK => ?_)
      · go_simp
        refine (hp _).mono ?_
        rintro e X ⟨rfl, rfl⟩
        clear hHeld
        refine hK.out _ _ trivial (fun hHeld => ?_)
        clear hK K
        refine take_at (i := 17) (v := ?v16) rfl (by kernel_rfl) (by kernel_rfl) (by kernel_rfl) (fun _ _ _ h => h) (Or.inl ⟨by rfl, ?y16⟩) hHeld ?t16
        case y16 => (intro wx hSw; go_simp <;> with_reducible rfl)
        simp only [Act.put, List.setIfInBounds_toArray, List.set_cons_zero, List.set_cons_succ]
        refine take_at (i := 18) (v := ?v17) rfl (by kernel_rfl) (by kernel_rfl) (by kernel_rfl) (fun _ _ _ h => h) (Or.inl ⟨by rfl, ?y17⟩) hHeld ?t17
        case y17 => (intro wx hSw; go_simp <;> with_reducible rfl)
        simp only [Act.put, List.setIfInBounds_toArray, List.set_cons_zero, List.set_cons_succ]
        refine call_at (i := 19) (by kernel_rfl) rfl (fun K hK => ?_)
        go_simp
        clear hHeld
        refine hK.out _ _ trivial (fun hHeld => ?_)
        clear hK K
        refine call_at (i := 20) (by kernel_rfl) rfl (fun K hK => ?_)
        go_simp
        clear hHeld
        refine hK.out _ _ trivial (fun hHeld => ?_)
        clear hK K
        refine wpAnyH_done (by kernel_rfl) ?_ _
        clear hHeld
        go_wp2_with fail
        go_meet
        case rel => exact ⟨rfl, rfl⟩
      · go_simp
        clear hHeld
        refine hK.out _ _ trivial (fun hHeld => ?_)
        clear hK K
        refine call_at (i := 16) (by kernel_rfl) rfl (fun K hK => ?_)
        go_simp
        refine (hp _).mono ?_
        rintro e X ⟨rfl, rfl⟩
        clear hHeld
        refine hK.out _ _ trivial (fun hHeld => ?_)
        clear hK K
        refine take_at (i := 17) (v := ?v18) rfl (by kernel_rfl) (by kernel_rfl) (by kernel_rfl) (fun _ _ _ h => h) (Or.inl ⟨by rfl, ?y18⟩) hHeld ?t18
        case y18 => (intro wx hSw; go_simp <;> with_reducible rfl)
        simp only [Act.put, List.setIfInBounds_toArray, List.set_cons_zero, List.set_cons_succ]
        refine take_at (i := 18) (v := ?v19) rfl (by kernel_rfl) (by kernel_rfl) (by kernel_rfl) (fun _ _ _ h => h) (Or.inl ⟨by rfl, ?y19⟩) hHeld ?t19
        case y19 => (intro wx hSw; go_simp <;> with_reducible rfl)
        simp only [Act.put, List.setIfInBounds_toArray, List.set_cons_zero, List.set_cons_succ]
        refine call_at (i := 20) (by kernel_rfl) rfl (fun K hK => ?_)
        go_simp
        clear hHeld
        refine hK.out _ _ trivial (fun hHeld => ?_)
        clear hK K
        refine wpAnyH_done (by kernel_rfl) ?_ _
        clear hHeld
        go_wp2_with fail
        go_meet
        case rel => exact ⟨rfl, rfl⟩
    · go_simp
      clear hHeld
      refine hK.out _ _ trivial (fun hHeld => ?_)
      clear hK K
      refine call_at (i := 2) (by kernel_rfl) rfl (fun K hK => ?_)
      go_simp
      refine (hj _).mono ?_
      rintro e X ⟨rfl, rfl⟩
      clear hHeld
      refine hK.out _ _ trivial (fun hHeld => ?_)
      clear hK K
      refine call_at (i := 16) (by kernel_rfl) rfl (fun K hK => ?_)
      go_simp
      refine (hp _).mono ?_
      rintro e X ⟨rfl, rfl⟩
      clear hHeld
      refine hK.out _ _ trivial (fun hHeld => ?_)
      clear hK K
      refine take_at (i := 17) (v := ?v20) rfl (by kernel_rfl) (by kernel_rfl) (by kernel_rfl) (fun _ _ _ h => h) (Or.inl ⟨by rfl, ?y20⟩) hHeld ?t20
      case y20 => (intro wx hSw; go_simp <;> with_reducible rfl)
      simp only [Act.put, List.setIfInBounds_toArray, List.set_cons_zero, List.set_cons_succ]
      refine take_at (i := 18) (v := ?v21) rfl (by kernel_rfl) (by kernel_rfl) (by kernel_rfl) (fun _ _ _ h => h) (Or.inl ⟨by rfl, ?y21⟩) hHeld ?t21
      case y21 => (intro wx hSw; go_simp <;> with_reducible rfl)
      simp only [Act.put, List.setIfInBounds_toArray, List.set_cons_zero, List.set_cons_succ]
      refine call_at (i := 20) (by kernel_rfl) rfl (fun K hK => ?_)
      go_simp
      clear hHeld
      refine hK.out _ _ trivial (fun hHeld => ?_)
      clear hK K
      refine wpAnyH_done (by kernel_rfl) ?_ _
      clear hHeld
      go_wp2_with fail
      go_meet
      case rel => exact ⟨rfl, rfl⟩
  obtain ⟨rfl, rfl⟩ := hcut
  clear hj hp hsl i6 i7 i8 i9
  go_wp2_with fail
  refine wp_loop_rounds 5 ?_
  rw [rounds_succ]
  go_wp2_with fail
  refine (hs0 _).mono ?_
  rintro e X ⟨rfl, rfl⟩
  go_wp2_with fail
  rw [rounds_succ]
  go_wp2_with fail
  refine (hs1 _).mono ?_
  rintro e X ⟨rfl, rfl⟩
  go_wp2_with fail
  rw [rounds_succ]
  go_wp2_with fail
  refine (hs2 _).mono ?_
  rintro e X ⟨rfl, rfl⟩
  go_wp2_with fail
  rw [rounds_succ]
  go_wp2_with fail
  refine (hs3 _).mono ?_
  rintro e X ⟨rfl, rfl⟩
  go_wp2_with fail
  rw [rounds_succ]
  go_wp2_with fail
  refine wp_loop_rounds 4 ?_
  rw [rounds_succ]
  go_wp2_with fail
  refine (hs4 _).mono ?_
  rintro e X ⟨rfl, rfl⟩
  go_wp2_with fail
  rw [rounds_succ]
  go_wp2_with fail
  refine (hs5 _).mono ?_
  rintro e X ⟨rfl, rfl⟩
  go_wp2_with fail
  rw [rounds_succ]
  go_wp2_with fail
  refine (hs6 _).mono ?_
  rintro e X ⟨rfl, rfl⟩
  go_wp2_with fail
  rw [rounds_succ]
  go_wp2_with fail
  refine (hm _).mono ?_
  rintro e W1 ⟨rfl, k1⟩
  have L1 := bel_then (bel_drew (bel_drew (bel_drew (bel_drew (bel_drew (bel_drew (bel_drew (bel_drew (bel_drew (bel_al (bel_al (bel_al (Below.refl _ w) (.cells #[.int .i64 32, .string s] 28)) (.cells #[.int .i64 0, .int .i64 0, .int .i64 0, .int .i64 0, .int .i64 0, .int .i64 0, .int .i64 0, .int .i64 0, .int .i64 0, .int .i64 0, .int .i64 0, .int .i64 0, .int .i64 0] 25)) (.cells #[.int .i64 x0, .int .i64 x1, .int .i64 x2, .int .i64 x3, .int .i64 x4, .int .i64 x5, .int .i64 x6, .int .i64 x7, .int .i64 x8, .int .i64 x9, .int .i64 x10, .int .i64 x11, .int .i64 x12] 25))))))))))) k1
  have R1 := ((((Arr_at (w.alloc (.cells #[.int .i64 32, .string s] 28)) (w.heap.size + 1) [.int .i64 0, .int .i64 0, .int .i64 0, .int .i64 0, .int .i64 0, .int .i64 0, .int .i64 0, .int .i64 0, .int .i64 0, .int .i64 0, .int .i64 0, .int .i64 0, .int .i64 0] 25 (by simp)).alloc (.cells #[.int .i64 x0, .int .i64 x1, .int .i64 x2, .int .i64 x3, .int .i64 x4, .int .i64 x5, .int .i64 x6, .int .i64 x7, .int .i64 x8, .int .i64 x9, .int .i64 x10, .int .i64 x11, .int .i64 x12] 25))).drew.drew.drew.drew.drew.drew.drew.drew.drew).below k1
  have O1 := ((Arr_at ((w.alloc (.cells #[.int .i64 32, .string s] 28)).alloc (.cells #[.int .i64 0, .int .i64 0, .int .i64 0, .int .i64 0, .int .i64 0, .int .i64 0, .int .i64 0, .int .i64 0, .int .i64 0, .int .i64 0, .int .i64 0, .int .i64 0, .int .i64 0] 25)) (w.heap.size + 1 + 1) [.int .i64 x0, .int .i64 x1, .int .i64 x2, .int .i64 x3, .int .i64 x4, .int .i64 x5, .int .i64 x6, .int .i64 x7, .int .i64 x8, .int .i64 x9, .int .i64 x10, .int .i64 x11, .int .i64 x12] 25 (by simp)).drew.drew.drew.drew.drew.drew.drew.drew.drew).below k1
  clear k1
  have zr := R1.lies
  have zo := O1.lies
  have c0 : W1.cell? ⟨w.heap.size + 1, 0, none⟩ = some (.int .i64 0) := R1.c 0 (of_decide_eq_true rfl)
  have f0 := R1.f 0 (of_decide_eq_true rfl)
  have c1 : W1.cell? ⟨w.heap.size + 1, 1, none⟩ = some (.int .i64 0) := R1.c 1 (of_decide_eq_true rfl)
  have f1 := R1.f 1 (of_decide_eq_true rfl)
  have c2 : W1.cell? ⟨w.heap.size + 1, 2, none⟩ = some (.int .i64 0) := R1.c 2 (of_decide_eq_true rfl)
  have f2 := R1.f 2 (of_decide_eq_true rfl)
  have c3 : W1.cell? ⟨w.heap.size + 1, 3, none⟩ = some (.int .i64 0) := R1.c 3 (of_decide_eq_true rfl)
  have f3 := R1.f 3 (of_decide_eq_true rfl)
  have c4 : W1.cell? ⟨w.heap.size + 1, 4, none⟩ = some (.int .i64 0) := R1.c 4 (of_decide_eq_true rfl)
  have f4 := R1.f 4 (of_decide_eq_true rfl)
  have c5 : W1.cell? ⟨w.heap.size + 1, 5, none⟩ = some (.int .i64 0) := R1.c 5 (of_decide_eq_true rfl)
  have f5 := R1.f 5 (of_decide_eq_true rfl)
  have c6 : W1.cell? ⟨w.heap.size + 1, 6, none⟩ = some (.int .i64 0) := R1.c 6 (of_decide_eq_true rfl)
  have f6 := R1.f 6 (of_decide_eq_true rfl)
  have c7 : W1.cell? ⟨w.heap.size + 1, 7, none⟩ = some (.int .i64 0) := R1.c 7 (of_decide_eq_true rfl)
  have f7 := R1.f 7 (of_decide_eq_true rfl)
  have c8 : W1.cell? ⟨w.heap.size + 1, 8, none⟩ = some (.int .i64 0) := R1.c 8 (of_decide_eq_true rfl)
  have f8 := R1.f 8 (of_decide_eq_true rfl)
  have c9 : W1.cell? ⟨w.heap.size + 1, 9, none⟩ = some (.int .i64 0) := R1.c 9 (of_decide_eq_true rfl)
  have f9 := R1.f 9 (of_decide_eq_true rfl)
  have c10 : W1.cell? ⟨w.heap.size + 1, 10, none⟩ = some (.int .i64 0) := R1.c 10 (of_decide_eq_true rfl)
  have f10 := R1.f 10 (of_decide_eq_true rfl)
  have c11 : W1.cell? ⟨w.heap.size + 1, 11, none⟩ = some (.int .i64 0) := R1.c 11 (of_decide_eq_true rfl)
  have f11 := R1.f 11 (of_decide_eq_true rfl)
  have c12 : W1.cell? ⟨w.heap.size + 1, 12, none⟩ = some (.int .i64 0) := R1.c 12 (of_decide_eq_true rfl)
  have f12 := R1.f 12 (of_decide_eq_true rfl)
  go_wp2_with (with_reducible refine post_stop ?_)
  have D := (((((((((((((R1.put 0 (of_decide_eq_true rfl) (.int .i64 0) [.int .i64 0, .int .i64 0, .int .i64 0, .int .i64 0, .int .i64 0, .int .i64 0, .int .i64 0, .int .i64 0, .int .i64 0, .int .i64 0, .int .i64 0, .int .i64 0, .int .i64 0] rfl).put 1 (of_decide_eq_true rfl) (.int .i64 0) [.int .i64 0, .int .i64 0, .int .i64 0, .int .i64 0, .int .i64 0, .int .i64 0, .int .i64 0, .int .i64 0, .int .i64 0, .int .i64 0, .int .i64 0, .int .i64 0, .int .i64 0] rfl).put 2 (of_decide_eq_true rfl) (.int .i64 0) [.int .i64 0, .int .i64 0, .int .i64 0, .int .i64 0, .int .i64 0, .int .i64 0, .int .i64 0, .int .i64 0, .int .i64 0, .int .i64 0, .int .i64 0, .int .i64 0, .int .i64 0] rfl).put 3 (of_decide_eq_true rfl) (.int .i64 0) [.int .i64 0, .int .i64 0, .int .i64 0, .int .i64 0, .int .i64 0, .int .i64 0, .int .i64 0, .int .i64 0, .int .i64 0, .int .i64 0, .int .i64 0, .int .i64 0, .int .i64 0] rfl).put 4 (of_decide_eq_true rfl) (.int .i64 0) [.int .i64 0, .int .i64 0, .int .i64 0, .int .i64 0, .int .i64 0, .int .i64 0, .int .i64 0, .int .i64 0, .int .i64 0, .int .i64 0, .int .i64 0, .int .i64 0, .int .i64 0] rfl).put 5 (of_decide_eq_true rfl) (.int .i64 0) [.int .i64 0, .int .i64 0, .int .i64 0, .int .i64 0, .int .i64 0, .int .i64 0, .int .i64 0, .int .i64 0, .int .i64 0, .int .i64 0, .int .i64 0, .int .i64 0, .int .i64 0] rfl).put 6 (of_decide_eq_true rfl) (.int .i64 0) [.int .i64 0, .int .i64 0, .int .i64 0, .int .i64 0, .int .i64 0, .int .i64 0, .int .i64 0, .int .i64 0, .int .i64 0, .int .i64 0, .int .i64 0, .int .i64 0, .int .i64 0] rfl).put 7 (of_decide_eq_true rfl) (.int .i64 0) [.int .i64 0, .int .i64 0, .int .i64 0, .int .i64 0, .int .i64 0, .int .i64 0, .int .i64 0, .int .i64 0, .int .i64 0, .int .i64 0, .int .i64 0, .int .i64 0, .int .i64 0] rfl).put 8 (of_decide_eq_true rfl) (.int .i64 0) [.int .i64 0, .int .i64 0, .int .i64 0, .int .i64 0, .int .i64 0, .int .i64 0, .int .i64 0, .int .i64 0, .int .i64 0, .int .i64 0, .int .i64 0, .int .i64 0, .int .i64 0] rfl).put 9 (of_decide_eq_true rfl) (.int .i64 0) [.int .i64 0, .int .i64 0, .int .i64 0, .int .i64 0, .int .i64 0, .int .i64 0, .int .i64 0, .int .i64 0, .int .i64 0, .int .i64 0, .int .i64 0, .int .i64 0, .int .i64 0] rfl).put 10 (of_decide_eq_true rfl) (.int .i64 0) [.int .i64 0, .int .i64 0, .int .i64 0, .int .i64 0, .int .i64 0, .int .i64 0, .int .i64 0, .int .i64 0, .int .i64 0, .int .i64 0, .int .i64 0, .int .i64 0, .int .i64 0] rfl).put 11 (of_decide_eq_true rfl) (.int .i64 0) [.int .i64 0, .int .i64 0, .int .i64 0, .int .i64 0, .int .i64 0, .int .i64 0, .int .i64 0, .int .i64 0, .int .i64 0, .int .i64 0, .int .i64 0, .int .i64 0, .int .i64 0] rfl).put 12 (of_decide_eq_true rfl) (.int .i64 0) [.int .i64 0, .int .i64 0, .int .i64 0, .int .i64 0, .int .i64 0, .int .i64 0, .int .i64 0, .int .i64 0, .int .i64 0, .int .i64 0, .int .i64 0, .int .i64 0, .int .i64 0] rfl)
  have d0 := D.c 0 (of_decide_eq_true rfl)
  have d1 := D.c 1 (of_decide_eq_true rfl)
  have d2 := D.c 2 (of_decide_eq_true rfl)
  have d3 := D.c 3 (of_decide_eq_true rfl)
  have d4 := D.c 4 (of_decide_eq_true rfl)
  have d5 := D.c 5 (of_decide_eq_true rfl)
  have d6 := D.c 6 (of_decide_eq_true rfl)
  have d7 := D.c 7 (of_decide_eq_true rfl)
  have d8 := D.c 8 (of_decide_eq_true rfl)
  have d9 := D.c 9 (of_decide_eq_true rfl)
  have d10 := D.c 10 (of_decide_eq_true rfl)
  have d11 := D.c 11 (of_decide_eq_true rfl)
  have d12 := D.c 12 (of_decide_eq_true rfl)
  simp only [List.getElem_cons_zero, List.getElem_cons_succ] at d0 d1 d2 d3 d4 d5 d6 d7 d8 d9 d10 d11 d12
  exact ⟨bodyPost_ret (v := .tuple #[.agg #[.int .i64 0, .int .i64 0, .int .i64 0, .int .i64 0, .int .i64 0, .int .i64 0, .int .i64 0, .int .i64 0, .int .i64 0, .int .i64 0, .int .i64 0, .int .i64 0, .int .i64 0], .bool false]) (by simp [results_cell_tmp Try.results9, asAddr, go_sem, d0, d1, d2, d3, d4, d5, d6, d7, d8, d9, d10, d11, d12]) rfl ⟨rfl, (bel_new (bel_new (bel_new (bel_new (bel_new (bel_new (bel_new (bel_new (bel_new (bel_new (bel_new (bel_new (bel_new L1 _ _ (by omega) _) _ _ (by omega) _) _ _ (by omega) _) _ _ (by omega) _) _ _ (by omega) _) _ _ (by omega) _) _ _ (by omega) _) _ _ (by omega) _) _ _ (by omega) _) _ _ (by omega) _) _ _ (by omega) _) _ _ (by omega) _) _ _ (by omega) _)⟩⟩
set_option maxHeartbeats 4000000 in
set_option maxRecDepth 100000 in
theorem tread_yes (s : ByteArray) (w : World) (hs : s.size = 26) (h : tlOk (tlE s) = true) :
    Calls Try.prog 9 #[.agg #[.int .i64 32, .string s]] w fun e w' => e = .returned (.tuple #[.agg #[.int .i64 (tickS s), .int .i64 (bt s 6 : Nat), .int .i64 (bt s 7 : Nat), .int .i64 (bt s 8 : Nat), .int .i64 (bt s 9 : Nat), .int .i64 (cnt s 10 : Nat), .int .i64 (sg (cnt s 12)), .int .i64 (sg (cnt s 14)), .int .i64 (sg (cnt s 16)), .int .i64 (sg (cnt s 18)), .int .i64 (sg (cnt s 20)), .int .i64 (sg (cnt s 22)), .int .i64 (sg (cnt s 24))], .bool true]) ∧ Below w.heap.size w w' := by
  have hm : ∀ W : World, Calls Try.prog 13 #[.agg #[.int .i64 (tickS s), .int .i64 (bt s 6 : Nat), .int .i64 (bt s 7 : Nat), .int .i64 (bt s 8 : Nat), .int .i64 (bt s 9 : Nat), .int .i64 (cnt s 10 : Nat), .int .i64 (sg (cnt s 12)), .int .i64 (sg (cnt s 14)), .int .i64 (sg (cnt s 16)), .int .i64 (sg (cnt s 18)), .int .i64 (sg (cnt s 20)), .int .i64 (sg (cnt s 22)), .int .i64 (sg (cnt s 24))]] W fun e w' => e = .returned (.bool (tlOk (tlE s))) ∧ Below W.heap.size W w' := mayTell_any (tlE s)
  rw [h] at hm
  clear h
  have hj := fun W => tjoined_any (s.extract 0 6) W (by rw [ByteArray.size_extract]; omega)
  rw [tick_head] at hj
  have hp := fun W => tpair_any s 10 10 W rfl (by omega) (by omega)
  have hs0 := fun W => tsigned_any s 12 12 W rfl (by omega) (by omega)
  have hs1 := fun W => tsigned_any s 14 14 W rfl (by omega) (by omega)
  have hs2 := fun W => tsigned_any s 16 16 W rfl (by omega) (by omega)
  have hs3 := fun W => tsigned_any s 18 18 W rfl (by omega) (by omega)
  have hs4 := fun W => tsigned_any s 20 20 W rfl (by omega) (by omega)
  have hs5 := fun W => tsigned_any s 22 22 W rfl (by omega) (by omega)
  have hs6 := fun W => tsigned_any s 24 24 W rfl (by omega) (by omega)
  have i6 := idx_run (s := s) (i := 6) (n := 6) (by omega) rfl
  have i7 := idx_run (s := s) (i := 7) (n := 7) (by omega) rfl
  have i8 := idx_run (s := s) (i := 8) (n := 8) (by omega) rfl
  have i9 := idx_run (s := s) (i := 9) (n := 9) (by omega) rfl
  have hsl : ∀ W : World, (Instr.slice 9 (.string s) none (some (.int .i64 6)) none).run Try.prog W = .ok (.string (s.extract 0 6)) W := fun W => by
    rw [run_slice_string_to_if W 9 s .i64 6 Try.underlying9, if_pos (by omega)]
    rfl
  generalize s.extract 0 6 = y at *
  have l6 := bt_lt s 6
  have l7 := bt_lt s 7
  have l8 := bt_lt s 8
  have l9 := bt_lt s 9
  have l10 := cnt_lt s 10
  generalize tickS s = x0 at *
  generalize bt s 6 = y1 at *
  generalize bt s 7 = y2 at *
  generalize bt s 8 = y3 at *
  generalize bt s 9 = y4 at *
  generalize cnt s 10 = y5 at *
  generalize sg (cnt s 12) = x6 at *
  generalize sg (cnt s 14) = x7 at *
  generalize sg (cnt s 16) = x8 at *
  generalize sg (cnt s 18) = x9 at *
  generalize sg (cnt s 20) = x10 at *
  generalize sg (cnt s 22) = x11 at *
  generalize sg (cnt s 24) = x12 at *
  have u1 : IntKind.i64.wrap (y1 : Int) = y1 := by rw [IntKind.wrap_i64]; omega
  have u2 : IntKind.i64.wrap (y2 : Int) = y2 := by rw [IntKind.wrap_i64]; omega
  have u3 : IntKind.i64.wrap (y3 : Int) = y3 := by rw [IntKind.wrap_i64]; omega
  have u4 : IntKind.i64.wrap (y4 : Int) = y4 := by rw [IntKind.wrap_i64]; omega
  have u5 : IntKind.i64.wrap (y5 : Int) = y5 := by rw [IntKind.wrap_i64]; omega
  clear l6
  generalize (y1 : Int) = x1 at *
  clear l7
  generalize (y2 : Int) = x2 at *
  clear l8
  generalize (y3 : Int) = x3 at *
  clear l9
  generalize (y4 : Int) = x4 at *
  clear l10
  generalize (y5 : Int) = x5 at *
  go_enter Try.func9, Try.ntmps9
  go_upto_region 4 with fail
  go_cut [5] from 8 (fun p wx => p = .pointer (some ⟨w.heap.size + 1 + 1, 0, none⟩) ∧ wx = (((w.alloc (.cells #[.int .i64 32, .string s] 28)).alloc (.cells #[.int .i64 0, .int .i64 0, .int .i64 0, .int .i64 0, .int .i64 0, .int .i64 0, .int .i64 0, .int .i64 0, .int .i64 0, .int .i64 0, .int .i64 0, .int .i64 0, .int .i64 0] 25)).alloc (.cells #[.int .i64 x0, .int .i64 x1, .int .i64 x2, .int .i64 x3, .int .i64 x4, .int .i64 x5, .int .i64 0, .int .i64 0, .int .i64 0, .int .i64 0, .int .i64 0, .int .i64 0, .int .i64 0] 25)).drew.drew)
  case first =>
    refine wp_region_held_drew (S := fun _ => True) (by kernel_rfl) trivial (fun hHeld => ?_)
    refine take_at (i := 0) (v := ?v1) rfl (by kernel_rfl) (by kernel_rfl) (by kernel_rfl) (fun _ _ _ h => h) (Or.inl ⟨by rfl, ?y1⟩) hHeld ?t1
    case y1 => (intro wx hSw; go_simp <;> with_reducible rfl)
    simp only [Act.put, List.setIfInBounds_toArray, List.set_cons_zero, List.set_cons_succ]
    refine take_at (i := 1) (v := ?v2) rfl (by kernel_rfl) (by kernel_rfl) (by kernel_rfl) (fun _ _ _ h => h) (Or.inl ⟨by rfl, ?y2⟩) hHeld ?t2
    case y2 => (intro wx hSw; go_simp <;> with_reducible rfl)
    simp only [Act.put, List.setIfInBounds_toArray, List.set_cons_zero, List.set_cons_succ]
    refine take_at (i := 3) (v := ?v3) rfl (by kernel_rfl) (by kernel_rfl) (by kernel_rfl) (fun _ _ _ h => h) (Or.inl ⟨by rfl, ?y3⟩) hHeld ?t3
    case y3 => (intro wx hSw; go_simp <;> with_reducible rfl)
    simp only [Act.put, List.setIfInBounds_toArray, List.set_cons_zero, List.set_cons_succ]
    refine take_at (i := 4) (v := ?v4) rfl (by kernel_rfl) (by kernel_rfl) (by kernel_rfl) (fun _ _ _ h => h) (Or.inl ⟨by rfl, ?y4⟩) hHeld ?t4
    case y4 => (intro wx hSw; go_simp <;> with_reducible rfl)
    simp only [Act.put, List.setIfInBounds_toArray, List.set_cons_zero, List.set_cons_succ]
    refine take_at (i := 5) (v := ?v5) rfl (by kernel_rfl) (by kernel_rfl) (by kernel_rfl) (fun _ _ _ h => h) (Or.inl ⟨by rfl, ?y5⟩) hHeld ?t5
    case y5 => (intro wx hSw; go_simp <;> with_reducible rfl)
    simp only [Act.put, List.setIfInBounds_toArray, List.set_cons_zero, List.set_cons_succ]
    refine take_at (i := 6) (v := ?v6) rfl (by kernel_rfl) (by kernel_rfl) (by kernel_rfl) (fun _ _ _ h => h) (Or.inl ⟨by rfl, ?y6⟩) hHeld ?t6
    case y6 => (intro wx hSw; go_simp <;> with_reducible rfl)
    simp only [Act.put, List.setIfInBounds_toArray, List.set_cons_zero, List.set_cons_succ]
    refine take_at (i := 7) (v := ?v7) rfl (by kernel_rfl) (by kernel_rfl) (by kernel_rfl) (fun _ _ _ h => h) (Or.inl ⟨by rfl, ?y7⟩) hHeld ?t7
    case y7 => (intro wx hSw; go_simp <;> with_reducible rfl)
    simp only [Act.put, List.setIfInBounds_toArray, List.set_cons_zero, List.set_cons_succ]
    refine take_at (i := 8) (v := ?v8) rfl (by kernel_rfl) (by kernel_rfl) (by kernel_rfl) (fun _ _ _ h => h) (Or.inl ⟨by rfl, ?y8⟩) hHeld ?t8
    case y8 => (intro wx hSw; go_simp <;> with_reducible rfl)
    simp only [Act.put, List.setIfInBounds_toArray, List.set_cons_zero, List.set_cons_succ]
    refine take_at (i := 9) (v := ?v9) rfl (by kernel_rfl) (by kernel_rfl) (by kernel_rfl) (fun _ _ _ h => h) (Or.inl ⟨by rfl, ?y9⟩) hHeld ?t9
    case y9 => (intro wx hSw; go_simp <;> with_reducible rfl)
    simp only [Act.put, List.setIfInBounds_toArray, List.set_cons_zero, List.set_cons_succ]
    refine take_at (i := 10) (v := ?v10) rfl (by kernel_rfl) (by kernel_rfl) (by kernel_rfl) (fun _ _ _ h => h) (Or.inl ⟨by rfl, ?y10⟩) hHeld ?t10
    case y10 => (intro wx hSw; go_simp <;> with_reducible rfl)
    simp only [Act.put, List.setIfInBounds_toArray, List.set_cons_zero, List.set_cons_succ]
    refine take_at (i := 11) (v := ?v11) rfl (by kernel_rfl) (by kernel_rfl) (by kernel_rfl) (fun _ _ _ h => h) (Or.inl ⟨by rfl, ?y11⟩) hHeld ?t11
    case y11 => (intro wx hSw; go_simp <;> with_reducible rfl)
    simp only [Act.put, List.setIfInBounds_toArray, List.set_cons_zero, List.set_cons_succ]
    refine take_at (i := 12) (v := ?v12) rfl (by kernel_rfl) (by kernel_rfl) (by kernel_rfl) (fun _ _ _ h => h) (Or.inl ⟨by rfl, ?y12⟩) hHeld ?t12
    case y12 => (intro wx hSw; go_simp <;> with_reducible rfl)
    simp only [Act.put, List.setIfInBounds_toArray, List.set_cons_zero, List.set_cons_succ]
    refine take_at (i := 13) (v := ?v13) rfl (by kernel_rfl) (by kernel_rfl) (by kernel_rfl) (fun _ _ _ h => h) (Or.inl ⟨by rfl, ?y13⟩) hHeld ?t13
    case y13 => (intro wx hSw; go_simp <;> with_reducible rfl)
    simp only [Act.put, List.setIfInBounds_toArray, List.set_cons_zero, List.set_cons_succ]
    refine take_at (i := 14) (v := ?v14) rfl (by kernel_rfl) (by kernel_rfl) (by kernel_rfl) (fun _ _ _ h => h) (Or.inl ⟨by rfl, ?y14⟩) hHeld ?t14
    case y14 => (intro wx hSw; go_simp <;> with_reducible rfl)
    simp only [Act.put, List.setIfInBounds_toArray, List.set_cons_zero, List.set_cons_succ]
    refine take_at (i := 15) (v := ?v15) rfl (by kernel_rfl) (by kernel_rfl) (by kernel_rfl) (fun _ _ _ h => h) (Or.inl ⟨by rfl, ?y15⟩) hHeld ?t15
    case y15 => (intro wx hSw; go_simp <;> with_reducible rfl)
    simp only [Act.put, List.setIfInBounds_toArray, List.set_cons_zero, List.set_cons_succ]
    refine call_at2 (i0 := 2) (i1 := 19) (by kernel_rfl) rfl rfl (fun K hK => ?_) (fun K hK => ?_)
    · go_simp
      refine (hj _).mono ?_
      rintro e X ⟨rfl, rfl⟩
      clear hHeld
      refine hK.out _ _ trivial (fun hHeld => ?_)
      clear hK K
      refine call_at2 (i0 := 16) (i1 := 19) (by kernel_rfl) rfl rfl (fun K hK => ?_) (fun K hK => ?_)
      · go_simp
        refine (hp _).mono ?_
        rintro e X ⟨rfl, rfl⟩
        clear hHeld
        refine hK.out _ _ trivial (fun hHeld => ?_)
        clear hK K
        refine take_at (i := 17) (v := ?v16) rfl (by kernel_rfl) (by kernel_rfl) (by kernel_rfl) (fun _ _ _ h => h) (Or.inl ⟨by rfl, ?y16⟩) hHeld ?t16
        case y16 => (intro wx hSw; go_simp <;> with_reducible rfl)
        simp only [Act.put, List.setIfInBounds_toArray, List.set_cons_zero, List.set_cons_succ]
        refine take_at (i := 18) (v := ?v17) rfl (by kernel_rfl) (by kernel_rfl) (by kernel_rfl) (fun _ _ _ h => h) (Or.inl ⟨by rfl, ?y17⟩) hHeld ?t17
        case y17 => (intro wx hSw; go_simp <;> with_reducible rfl)
        simp only [Act.put, List.setIfInBounds_toArray, List.set_cons_zero, List.set_cons_succ]
        refine call_at (i := 19) (by kernel_rfl) rfl (fun K hK => ?_)
        go_simp
        clear hHeld
        refine hK.out _ _ trivial (fun hHeld => ?_)
        clear hK K
        refine call_at (i := 20) (by kernel_rfl) rfl (fun K hK => ?_)
        go_simp
        clear hHeld
        refine hK.out _ _ trivial (fun hHeld => ?_)
        clear hK K
        refine wpAnyH_done (by kernel_rfl) ?_ _
        clear hHeld
        go_wp2_with fail
        go_meet
        case rel => exact ⟨rfl, rfl⟩
      · go_simp
        clear hHeld
        refine hK.out _ _ trivial (fun hHeld => ?_)
        clear hK K
        refine call_at (i := 16) (by kernel_rfl) rfl (fun K hK => ?_)
        go_simp
        refine (hp _).mono ?_
        rintro e X ⟨rfl, rfl⟩
        clear hHeld
        refine hK.out _ _ trivial (fun hHeld => ?_)
        clear hK K
        refine take_at (i := 17) (v := ?v18) rfl (by kernel_rfl) (by kernel_rfl) (by kernel_rfl) (fun _ _ _ h => h) (Or.inl ⟨by rfl, ?y18⟩) hHeld ?t18
        case y18 => (intro wx hSw; go_simp <;> with_reducible rfl)
        simp only [Act.put, List.setIfInBounds_toArray, List.set_cons_zero, List.set_cons_succ]
        refine take_at (i := 18) (v := ?v19) rfl (by kernel_rfl) (by kernel_rfl) (by kernel_rfl) (fun _ _ _ h => h) (Or.inl ⟨by rfl, ?y19⟩) hHeld ?t19
        case y19 => (intro wx hSw; go_simp <;> with_reducible rfl)
        simp only [Act.put, List.setIfInBounds_toArray, List.set_cons_zero, List.set_cons_succ]
        refine call_at (i := 20) (by kernel_rfl) rfl (fun K hK => ?_)
        go_simp
        clear hHeld
        refine hK.out _ _ trivial (fun hHeld => ?_)
        clear hK K
        refine wpAnyH_done (by kernel_rfl) ?_ _
        clear hHeld
        go_wp2_with fail
        go_meet
        case rel => exact ⟨rfl, rfl⟩
    · go_simp
      clear hHeld
      refine hK.out _ _ trivial (fun hHeld => ?_)
      clear hK K
      refine call_at (i := 2) (by kernel_rfl) rfl (fun K hK => ?_)
      go_simp
      refine (hj _).mono ?_
      rintro e X ⟨rfl, rfl⟩
      clear hHeld
      refine hK.out _ _ trivial (fun hHeld => ?_)
      clear hK K
      refine call_at (i := 16) (by kernel_rfl) rfl (fun K hK => ?_)
      go_simp
      refine (hp _).mono ?_
      rintro e X ⟨rfl, rfl⟩
      clear hHeld
      refine hK.out _ _ trivial (fun hHeld => ?_)
      clear hK K
      refine take_at (i := 17) (v := ?v20) rfl (by kernel_rfl) (by kernel_rfl) (by kernel_rfl) (fun _ _ _ h => h) (Or.inl ⟨by rfl, ?y20⟩) hHeld ?t20
      case y20 => (intro wx hSw; go_simp <;> with_reducible rfl)
      simp only [Act.put, List.setIfInBounds_toArray, List.set_cons_zero, List.set_cons_succ]
      refine take_at (i := 18) (v := ?v21) rfl (by kernel_rfl) (by kernel_rfl) (by kernel_rfl) (fun _ _ _ h => h) (Or.inl ⟨by rfl, ?y21⟩) hHeld ?t21
      case y21 => (intro wx hSw; go_simp <;> with_reducible rfl)
      simp only [Act.put, List.setIfInBounds_toArray, List.set_cons_zero, List.set_cons_succ]
      refine call_at (i := 20) (by kernel_rfl) rfl (fun K hK => ?_)
      go_simp
      clear hHeld
      refine hK.out _ _ trivial (fun hHeld => ?_)
      clear hK K
      refine wpAnyH_done (by kernel_rfl) ?_ _
      clear hHeld
      go_wp2_with fail
      go_meet
      case rel => exact ⟨rfl, rfl⟩
  obtain ⟨rfl, rfl⟩ := hcut
  clear hj hp hsl i6 i7 i8 i9
  go_wp2_with fail
  refine wp_loop_rounds 5 ?_
  rw [rounds_succ]
  go_wp2_with fail
  refine (hs0 _).mono ?_
  rintro e X ⟨rfl, rfl⟩
  go_wp2_with fail
  rw [rounds_succ]
  go_wp2_with fail
  refine (hs1 _).mono ?_
  rintro e X ⟨rfl, rfl⟩
  go_wp2_with fail
  rw [rounds_succ]
  go_wp2_with fail
  refine (hs2 _).mono ?_
  rintro e X ⟨rfl, rfl⟩
  go_wp2_with fail
  rw [rounds_succ]
  go_wp2_with fail
  refine (hs3 _).mono ?_
  rintro e X ⟨rfl, rfl⟩
  go_wp2_with fail
  rw [rounds_succ]
  go_wp2_with fail
  refine wp_loop_rounds 4 ?_
  rw [rounds_succ]
  go_wp2_with fail
  refine (hs4 _).mono ?_
  rintro e X ⟨rfl, rfl⟩
  go_wp2_with fail
  rw [rounds_succ]
  go_wp2_with fail
  refine (hs5 _).mono ?_
  rintro e X ⟨rfl, rfl⟩
  go_wp2_with fail
  rw [rounds_succ]
  go_wp2_with fail
  refine (hs6 _).mono ?_
  rintro e X ⟨rfl, rfl⟩
  go_wp2_with fail
  rw [rounds_succ]
  go_wp2_with fail
  refine (hm _).mono ?_
  rintro e W1 ⟨rfl, k1⟩
  have L1 := bel_then (bel_drew (bel_drew (bel_drew (bel_drew (bel_drew (bel_drew (bel_drew (bel_drew (bel_drew (bel_al (bel_al (bel_al (Below.refl _ w) (.cells #[.int .i64 32, .string s] 28)) (.cells #[.int .i64 0, .int .i64 0, .int .i64 0, .int .i64 0, .int .i64 0, .int .i64 0, .int .i64 0, .int .i64 0, .int .i64 0, .int .i64 0, .int .i64 0, .int .i64 0, .int .i64 0] 25)) (.cells #[.int .i64 x0, .int .i64 x1, .int .i64 x2, .int .i64 x3, .int .i64 x4, .int .i64 x5, .int .i64 x6, .int .i64 x7, .int .i64 x8, .int .i64 x9, .int .i64 x10, .int .i64 x11, .int .i64 x12] 25))))))))))) k1
  have R1 := ((((Arr_at (w.alloc (.cells #[.int .i64 32, .string s] 28)) (w.heap.size + 1) [.int .i64 0, .int .i64 0, .int .i64 0, .int .i64 0, .int .i64 0, .int .i64 0, .int .i64 0, .int .i64 0, .int .i64 0, .int .i64 0, .int .i64 0, .int .i64 0, .int .i64 0] 25 (by simp)).alloc (.cells #[.int .i64 x0, .int .i64 x1, .int .i64 x2, .int .i64 x3, .int .i64 x4, .int .i64 x5, .int .i64 x6, .int .i64 x7, .int .i64 x8, .int .i64 x9, .int .i64 x10, .int .i64 x11, .int .i64 x12] 25))).drew.drew.drew.drew.drew.drew.drew.drew.drew).below k1
  have O1 := ((Arr_at ((w.alloc (.cells #[.int .i64 32, .string s] 28)).alloc (.cells #[.int .i64 0, .int .i64 0, .int .i64 0, .int .i64 0, .int .i64 0, .int .i64 0, .int .i64 0, .int .i64 0, .int .i64 0, .int .i64 0, .int .i64 0, .int .i64 0, .int .i64 0] 25)) (w.heap.size + 1 + 1) [.int .i64 x0, .int .i64 x1, .int .i64 x2, .int .i64 x3, .int .i64 x4, .int .i64 x5, .int .i64 x6, .int .i64 x7, .int .i64 x8, .int .i64 x9, .int .i64 x10, .int .i64 x11, .int .i64 x12] 25 (by simp)).drew.drew.drew.drew.drew.drew.drew.drew.drew).below k1
  clear k1
  have zr := R1.lies
  have zo := O1.lies
  have a0 : W1.cell? ⟨w.heap.size + 1 + 1, 0, none⟩ = some (.int .i64 x0) := O1.c 0 (of_decide_eq_true rfl)
  have a1 : W1.cell? ⟨w.heap.size + 1 + 1, 1, none⟩ = some (.int .i64 x1) := O1.c 1 (of_decide_eq_true rfl)
  have a2 : W1.cell? ⟨w.heap.size + 1 + 1, 2, none⟩ = some (.int .i64 x2) := O1.c 2 (of_decide_eq_true rfl)
  have a3 : W1.cell? ⟨w.heap.size + 1 + 1, 3, none⟩ = some (.int .i64 x3) := O1.c 3 (of_decide_eq_true rfl)
  have a4 : W1.cell? ⟨w.heap.size + 1 + 1, 4, none⟩ = some (.int .i64 x4) := O1.c 4 (of_decide_eq_true rfl)
  have a5 : W1.cell? ⟨w.heap.size + 1 + 1, 5, none⟩ = some (.int .i64 x5) := O1.c 5 (of_decide_eq_true rfl)
  have a6 : W1.cell? ⟨w.heap.size + 1 + 1, 6, none⟩ = some (.int .i64 x6) := O1.c 6 (of_decide_eq_true rfl)
  have a7 : W1.cell? ⟨w.heap.size + 1 + 1, 7, none⟩ = some (.int .i64 x7) := O1.c 7 (of_decide_eq_true rfl)
  have a8 : W1.cell? ⟨w.heap.size + 1 + 1, 8, none⟩ = some (.int .i64 x8) := O1.c 8 (of_decide_eq_true rfl)
  have a9 : W1.cell? ⟨w.heap.size + 1 + 1, 9, none⟩ = some (.int .i64 x9) := O1.c 9 (of_decide_eq_true rfl)
  have a10 : W1.cell? ⟨w.heap.size + 1 + 1, 10, none⟩ = some (.int .i64 x10) := O1.c 10 (of_decide_eq_true rfl)
  have a11 : W1.cell? ⟨w.heap.size + 1 + 1, 11, none⟩ = some (.int .i64 x11) := O1.c 11 (of_decide_eq_true rfl)
  have a12 : W1.cell? ⟨w.heap.size + 1 + 1, 12, none⟩ = some (.int .i64 x12) := O1.c 12 (of_decide_eq_true rfl)
  have c0 : W1.cell? ⟨w.heap.size + 1, 0, none⟩ = some (.int .i64 0) := R1.c 0 (of_decide_eq_true rfl)
  have f0 := R1.f 0 (of_decide_eq_true rfl)
  have c1 : W1.cell? ⟨w.heap.size + 1, 1, none⟩ = some (.int .i64 0) := R1.c 1 (of_decide_eq_true rfl)
  have f1 := R1.f 1 (of_decide_eq_true rfl)
  have c2 : W1.cell? ⟨w.heap.size + 1, 2, none⟩ = some (.int .i64 0) := R1.c 2 (of_decide_eq_true rfl)
  have f2 := R1.f 2 (of_decide_eq_true rfl)
  have c3 : W1.cell? ⟨w.heap.size + 1, 3, none⟩ = some (.int .i64 0) := R1.c 3 (of_decide_eq_true rfl)
  have f3 := R1.f 3 (of_decide_eq_true rfl)
  have c4 : W1.cell? ⟨w.heap.size + 1, 4, none⟩ = some (.int .i64 0) := R1.c 4 (of_decide_eq_true rfl)
  have f4 := R1.f 4 (of_decide_eq_true rfl)
  have c5 : W1.cell? ⟨w.heap.size + 1, 5, none⟩ = some (.int .i64 0) := R1.c 5 (of_decide_eq_true rfl)
  have f5 := R1.f 5 (of_decide_eq_true rfl)
  have c6 : W1.cell? ⟨w.heap.size + 1, 6, none⟩ = some (.int .i64 0) := R1.c 6 (of_decide_eq_true rfl)
  have f6 := R1.f 6 (of_decide_eq_true rfl)
  have c7 : W1.cell? ⟨w.heap.size + 1, 7, none⟩ = some (.int .i64 0) := R1.c 7 (of_decide_eq_true rfl)
  have f7 := R1.f 7 (of_decide_eq_true rfl)
  have c8 : W1.cell? ⟨w.heap.size + 1, 8, none⟩ = some (.int .i64 0) := R1.c 8 (of_decide_eq_true rfl)
  have f8 := R1.f 8 (of_decide_eq_true rfl)
  have c9 : W1.cell? ⟨w.heap.size + 1, 9, none⟩ = some (.int .i64 0) := R1.c 9 (of_decide_eq_true rfl)
  have f9 := R1.f 9 (of_decide_eq_true rfl)
  have c10 : W1.cell? ⟨w.heap.size + 1, 10, none⟩ = some (.int .i64 0) := R1.c 10 (of_decide_eq_true rfl)
  have f10 := R1.f 10 (of_decide_eq_true rfl)
  have c11 : W1.cell? ⟨w.heap.size + 1, 11, none⟩ = some (.int .i64 0) := R1.c 11 (of_decide_eq_true rfl)
  have f11 := R1.f 11 (of_decide_eq_true rfl)
  have c12 : W1.cell? ⟨w.heap.size + 1, 12, none⟩ = some (.int .i64 0) := R1.c 12 (of_decide_eq_true rfl)
  have f12 := R1.f 12 (of_decide_eq_true rfl)
  go_wp2_with (with_reducible refine post_stop ?_)
  have D := (((((((((((((R1.put 0 (of_decide_eq_true rfl) (.int .i64 x0) [.int .i64 x0, .int .i64 0, .int .i64 0, .int .i64 0, .int .i64 0, .int .i64 0, .int .i64 0, .int .i64 0, .int .i64 0, .int .i64 0, .int .i64 0, .int .i64 0, .int .i64 0] rfl).put 1 (of_decide_eq_true rfl) (.int .i64 x1) [.int .i64 x0, .int .i64 x1, .int .i64 0, .int .i64 0, .int .i64 0, .int .i64 0, .int .i64 0, .int .i64 0, .int .i64 0, .int .i64 0, .int .i64 0, .int .i64 0, .int .i64 0] rfl).put 2 (of_decide_eq_true rfl) (.int .i64 x2) [.int .i64 x0, .int .i64 x1, .int .i64 x2, .int .i64 0, .int .i64 0, .int .i64 0, .int .i64 0, .int .i64 0, .int .i64 0, .int .i64 0, .int .i64 0, .int .i64 0, .int .i64 0] rfl).put 3 (of_decide_eq_true rfl) (.int .i64 x3) [.int .i64 x0, .int .i64 x1, .int .i64 x2, .int .i64 x3, .int .i64 0, .int .i64 0, .int .i64 0, .int .i64 0, .int .i64 0, .int .i64 0, .int .i64 0, .int .i64 0, .int .i64 0] rfl).put 4 (of_decide_eq_true rfl) (.int .i64 x4) [.int .i64 x0, .int .i64 x1, .int .i64 x2, .int .i64 x3, .int .i64 x4, .int .i64 0, .int .i64 0, .int .i64 0, .int .i64 0, .int .i64 0, .int .i64 0, .int .i64 0, .int .i64 0] rfl).put 5 (of_decide_eq_true rfl) (.int .i64 x5) [.int .i64 x0, .int .i64 x1, .int .i64 x2, .int .i64 x3, .int .i64 x4, .int .i64 x5, .int .i64 0, .int .i64 0, .int .i64 0, .int .i64 0, .int .i64 0, .int .i64 0, .int .i64 0] rfl).put 6 (of_decide_eq_true rfl) (.int .i64 x6) [.int .i64 x0, .int .i64 x1, .int .i64 x2, .int .i64 x3, .int .i64 x4, .int .i64 x5, .int .i64 x6, .int .i64 0, .int .i64 0, .int .i64 0, .int .i64 0, .int .i64 0, .int .i64 0] rfl).put 7 (of_decide_eq_true rfl) (.int .i64 x7) [.int .i64 x0, .int .i64 x1, .int .i64 x2, .int .i64 x3, .int .i64 x4, .int .i64 x5, .int .i64 x6, .int .i64 x7, .int .i64 0, .int .i64 0, .int .i64 0, .int .i64 0, .int .i64 0] rfl).put 8 (of_decide_eq_true rfl) (.int .i64 x8) [.int .i64 x0, .int .i64 x1, .int .i64 x2, .int .i64 x3, .int .i64 x4, .int .i64 x5, .int .i64 x6, .int .i64 x7, .int .i64 x8, .int .i64 0, .int .i64 0, .int .i64 0, .int .i64 0] rfl).put 9 (of_decide_eq_true rfl) (.int .i64 x9) [.int .i64 x0, .int .i64 x1, .int .i64 x2, .int .i64 x3, .int .i64 x4, .int .i64 x5, .int .i64 x6, .int .i64 x7, .int .i64 x8, .int .i64 x9, .int .i64 0, .int .i64 0, .int .i64 0] rfl).put 10 (of_decide_eq_true rfl) (.int .i64 x10) [.int .i64 x0, .int .i64 x1, .int .i64 x2, .int .i64 x3, .int .i64 x4, .int .i64 x5, .int .i64 x6, .int .i64 x7, .int .i64 x8, .int .i64 x9, .int .i64 x10, .int .i64 0, .int .i64 0] rfl).put 11 (of_decide_eq_true rfl) (.int .i64 x11) [.int .i64 x0, .int .i64 x1, .int .i64 x2, .int .i64 x3, .int .i64 x4, .int .i64 x5, .int .i64 x6, .int .i64 x7, .int .i64 x8, .int .i64 x9, .int .i64 x10, .int .i64 x11, .int .i64 0] rfl).put 12 (of_decide_eq_true rfl) (.int .i64 x12) [.int .i64 x0, .int .i64 x1, .int .i64 x2, .int .i64 x3, .int .i64 x4, .int .i64 x5, .int .i64 x6, .int .i64 x7, .int .i64 x8, .int .i64 x9, .int .i64 x10, .int .i64 x11, .int .i64 x12] rfl)
  have d0 := D.c 0 (of_decide_eq_true rfl)
  have d1 := D.c 1 (of_decide_eq_true rfl)
  have d2 := D.c 2 (of_decide_eq_true rfl)
  have d3 := D.c 3 (of_decide_eq_true rfl)
  have d4 := D.c 4 (of_decide_eq_true rfl)
  have d5 := D.c 5 (of_decide_eq_true rfl)
  have d6 := D.c 6 (of_decide_eq_true rfl)
  have d7 := D.c 7 (of_decide_eq_true rfl)
  have d8 := D.c 8 (of_decide_eq_true rfl)
  have d9 := D.c 9 (of_decide_eq_true rfl)
  have d10 := D.c 10 (of_decide_eq_true rfl)
  have d11 := D.c 11 (of_decide_eq_true rfl)
  have d12 := D.c 12 (of_decide_eq_true rfl)
  simp only [List.getElem_cons_zero, List.getElem_cons_succ] at d0 d1 d2 d3 d4 d5 d6 d7 d8 d9 d10 d11 d12
  exact ⟨bodyPost_ret (v := .tuple #[.agg #[.int .i64 x0, .int .i64 x1, .int .i64 x2, .int .i64 x3, .int .i64 x4, .int .i64 x5, .int .i64 x6, .int .i64 x7, .int .i64 x8, .int .i64 x9, .int .i64 x10, .int .i64 x11, .int .i64 x12], .bool true]) (by simp [results_cell_tmp Try.results9, asAddr, go_sem, d0, d1, d2, d3, d4, d5, d6, d7, d8, d9, d10, d11, d12]) rfl ⟨rfl, (bel_new (bel_new (bel_new (bel_new (bel_new (bel_new (bel_new (bel_new (bel_new (bel_new (bel_new (bel_new (bel_new L1 _ _ (by omega) _) _ _ (by omega) _) _ _ (by omega) _) _ _ (by omega) _) _ _ (by omega) _) _ _ (by omega) _) _ _ (by omega) _) _ _ (by omega) _) _ _ (by omega) _) _ _ (by omega) _) _ _ (by omega) _) _ _ (by omega) _) _ _ (by omega) _)⟩⟩
theorem tread_any (k : Int) (s : ByteArray) (w : World) :
    Calls Try.prog 9 #[.agg #[.int .i64 k, .string s]] w fun e w' => e = .returned (.tuple #[.agg #[.int .i64 (tlR k s).1.t, .int .i64 (tlR k s).1.m, .int .i64 (tlR k s).1.fa, .int .i64 (tlR k s).1.ak, .int .i64 (tlR k s).1.er, .int .i64 (tlR k s).1.rj, .int .i64 (tlR k s).1.q0, .int .i64 (tlR k s).1.q1, .int .i64 (tlR k s).1.q2, .int .i64 (tlR k s).1.q3, .int .i64 (tlR k s).1.d0, .int .i64 (tlR k s).1.d1, .int .i64 (tlR k s).1.d2], .bool (tlR k s).2]) ∧ Below w.heap.size w w' := by
  unfold tlR
  by_cases hk : k = 32
  · subst hk
    by_cases hs : s.size = 26
    · cases h : tlOk (tlE s)
      · rw [if_neg (by simp)]
        exact tread_not s w hs h
      · rw [if_pos ⟨rfl, hs, rfl⟩]
        exact tread_yes s w hs h
    · rw [if_neg (by simp [hs])]
      exact tread_size s w hs
  · rw [if_neg (by simp [hk])]
    exact tread_kind k s w hk
end Go.Proofs.Ytchkedlfackfgaa
