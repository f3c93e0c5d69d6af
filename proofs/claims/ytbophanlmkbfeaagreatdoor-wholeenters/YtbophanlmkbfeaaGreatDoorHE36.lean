/-
A part.
A part.
A part.
-/
import Derived.Test.YtbophanlmkbfeaaGreatDoorHE35
import Derived.Test.YtbophanlmkbfeaaGreatDoorHE33
import Derived.Test.YtbophanlmkbfeaaGreatDoorHE34
import Derived.Test.YtbophanlmkbfeaaGreatDoorHE16
namespace Go.Proofs.YtbophanlmkbfeaaGreatDoor
open Go.RowKit
def tlT (T : Tl) : Tel := (T.t, T.m, T.fa, T.ak, T.er, T.rj, T.q0, T.q1, T.q2, T.q3, T.d0, T.d1, T.d2, ())
theorem tlT_of (x : Tel) : tlT (tlOf x) = x := rfl
theorem opens_told (T : Tl) : ropenS (bytesOf T) = (32, strOf (tlL T), true) := by
 have hn : (strOf (tlL T)).data.toList.length = 26 := tlStr_size T
 have hl := look_wrap 32 (strOf (tlL T)).data.toList [] (by omega)
 rw [List.append_nil, hn] at hl
 have hw := wrapL_length 32 (strOf (tlL T)).data.toList
 have hb : (bytesOf T).data.toList = wrapL 32 (strOf (tlL T)).data.toList := rfl
 refine ropenS_yes (k := 32) hl ?_ ?_ rfl
 ·rw [hb, List.take_of_length_le (by omega)]
 ·rw [wrapL_parts]
  show (strOf (tlL T)).data.toList = List.take 26 ((strOf (tlL T)).data.toList ++ _)
  rw [List.take_append_of_le_length (by omega), List.take_of_length_le (by omega)]
def readS (s : ByteArray) : Tl := tlE (ropenS s).2.1
theorem readS_of {T : Tl} (h : tlOk T = true) : readS (bytesOf T) = T := by
 unfold readS
 rw [opens_told]
 exact tl_back h
def ToldOk (s : ByteArray) : Prop := ∃ T, tlOk T = true ∧ s = bytesOf T
set_option maxRecDepth 100000 in
theorem told_at {s : ByteArray} (h : ToldOk s) (w : World) (hw : GW w) : Calls Tryz.prog 34 #[.string s] w fun e w' => e = .returned ((two' (cT 13) cB).enc (tlT (readS s), true)) ∧ Below w.heap.size w w' := by
 obtain ⟨T, hT, rfl⟩ := h
 rw [readS_of hT]
 have hz : (bytesOf T).size ≤ 5000 := by
  have hn : (strOf (tlL T)).data.toList.length = 26 := tlStr_size T
  have hw := wrapL_length 32 (strOf (tlL T)).data.toList
  have hb : (bytesOf T).size = (wrapL 32 (strOf (tlL T)).data.toList).length := rfl
  omega
 have ho : ∀ w, GW w → Calls Tryz.prog 10 ((lone' cS).enc (bytesOf T)).toArray w fun e w' => e = .returned ((two' cFra cB).enc ((32, strOf (tlL T)), true)) ∧ Below w.heap.size w w' := fun w _ => by
  have := ropen_any (bytesOf T) w hz
  rw [opens_told] at this
  exact this
 have hr : ∀ w, GW w → Calls Tryz.prog 11 ((lone' cFra).enc (32, strOf (tlL T))).toArray w fun e w' => e = .returned ((two' (cT 13) cB).enc (tlT T, true)) ∧ Below w.heap.size w w' := fun w hw => rtread_yes (strOf (tlL T)) w hw (tlStr_size T) (by rw [tl_back hT]; exact hT) (by rw [tl_back hT]; rfl)
 refine pure_at (d := lone' cS) (k := two' (cT 13) cB) (x := bytesOf T) (y := (tlT T, true)) (tbl := [ctAt Tryz.prog 10 (lone' cS) (two' cFra cB) (bytesOf T) ((32, strOf (tlL T)), true) (go_of Tryz.func10 (by kernel_rfl) (by kernel_rfl)) ho, ctAt Tryz.prog 11 (lone' cFra) (two' (cT 13) cB) (32, strOf (tlL T)) (tlT T, true) (go_of Tryz.func11 (by kernel_rfl) (by kernel_rfl)) hr]) (dirty := fun _ => []) (n := 4) xmixA Tryz.func34 rfl (fun Post hP => ?_) w hw
 refine Eq.mpr (β := (lone' cS).enc (bytesOf T) = (lone' cS).enc (bytesOf T) ∧ (lone' cFra).enc (32, strOf (tlL T)) = (lone' cFra).enc (32, strOf (tlL T)) ∧ PJ (two' (cT 13) cB) Post (tlT T, true)) (by kernel_rfl) ⟨rfl, rfl, hP⟩
def toldCt : Ct Tryz.prog := predCt Tryz.prog 34 (lone' cS) (fun s K => ToldOk s ∧ K ((two' (cT 13) cB).enc (tlT (readS s), true))) (fun _ _ _ hK hs => ⟨hs.1, hK _ hs.2⟩) (go_of Tryz.func34 (by kernel_rfl) (by kernel_rfl))
 (fun s w hw K hs => Calls.mono (told_at hs.1 w hw) (by rintro e w' ⟨rfl, hb⟩; exact ⟨_, rfl, rfl, hs.2, hb⟩))
def StepOk (x : Cra × Int × ByteArray) : Prop := CInv x.1 ∧ x.1.2.2.1.size + x.2.2.size ≤ 5000
def stepQ (F : Fs) (x : Cra × Int × ByteArray) (K : Value → Prop) : Prop :=
 StepOk x ∧ vif (stays x.1 x.2.1) (K ((two' cCra cS).enc (x.1, noBytes))) (K ((two' cCra cS).enc ((stepF F x.1 x.2.1 x.2.2).1, bytesOf (tlOf (telF F (stepF F x.1 x.2.1 x.2.2).1)))))
theorem stepQ_mono (F : Fs) (x : Cra × Int × ByteArray) (K K' : Value → Prop) (hK : ∀ v, K v → K' v) (h : stepQ F x K) : stepQ F x K' := by
 refine ⟨h.1, ?_⟩
 have h2 := h.2
 cases hs : stays x.1 x.2.1
 ·rw [hs] at h2
  exact hK _ h2
 ·rw [hs] at h2
  exact hK _ h2
theorem stepQ_at {F : Fs} (hF : FsIs F) (x : Cra × Int × ByteArray) (w : World) (hw : GW w) (K : Value → Prop) (h : stepQ F x K) :
    Calls Tryz.prog 9 ((then' cCra (then' cI (lone' cS))).enc x).toArray w fun e w' => ∃ v, e = .returned v ∧ isP v = false ∧ K v ∧ Below w.heap.size w w' := by
 obtain ⟨c, t, b⟩ := x
 obtain ⟨⟨hi, hz⟩, h2⟩ := h
 dsimp only at hi hz h2
 refine Calls.mono (stepF_at hF.ok c t b hz w hw) ?_
 rintro e w' ⟨rfl, hb⟩
 refine ⟨_, rfl, rfl, ?_, hb⟩
 cases hs : stays c t
 ·rw [hs] at h2
  have h2 : K ((two' cCra cS).enc ((stepF F c t b).1, bytesOf (tlOf (telF F (stepF F c t b).1)))) := h2
  rw [← (took hF hi b hs).2] at h2
  exact h2
 ·rw [hs] at h2
  rw [stays_yes hF hs b]
  exact h2
def stepCt (F : Fs) (hF : FsIs F) : Ct Tryz.prog := predCt Tryz.prog 9 (then' cCra (then' cI (lone' cS))) (stepQ F) (stepQ_mono F) (go_of Tryz.func9 (by kernel_rfl) (by kernel_rfl)) (stepQ_at hF)
end Go.Proofs.YtbophanlmkbfeaaGreatDoor
namespace Go.Proofs.YtbophanlmkbfeaaGreatDoor
open Go.RowKit
def gapW (x : Int) : Int := if 1000000 < (if -1000000 > x then -1000000 else x) then 1000000 else (if -1000000 > x then -1000000 else x)
def exK : List Nat := [1, 5, 6, 17, 18, 16]
def exF (f : Nat) (t n i : Int) (sl : Value) (d : Nat → Value) : List Value := frm [(1, .func (.func f) #[] #[]), (5, ptr 2), (6, .int .i64 t), (17, .int .i64 n), (18, .int .i64 i), (16, sl)] d 60
def exE (f : Nat) (t n i : Int) (sl : Value) (d : Nat → Value) : List Value := vset ((exF f t n i sl d).set 19 (.bool (decide (i < n)))) (.tmp 19) false
def exM (pl : List Value) (c : Cra) : Xm := [[], pl, dCra.enc c]
def exT (F : Fs) (hF : FsIs F) : List (Ct Tryz.prog) := [stepCt F hF, toldCt]
def exO (F : Fs) (hF : FsIs F) (f : Nat) (Held : Cra → Cra → Tel → ByteArray → Prop) (ao : Option Addr) (n cap : Nat) (L : Nat → Int × ByteArray) (sl : Value) : Ov := fun id => match id with
 | 3 => some fun _ _ K => eSl 2 15 16 17 18 60 ao n cap sl (forget exK 60 3 K)
 | 5 => some fun _ _ => eRec 16 18 20 21 8 3 60 n L sl
 | 9 => some fun _ _ => eN
 | 12 => some fun _ _ => eH f Held
 | 15 => some (cutBy Tryz.prog (exT F hF) (fun _ => []) 15 exK 60 3)
 | _ => none
def exB (P : Program) : Code := cpart [true, true, true, false, true] (bodyOf P 15)
def exL (P : Program) : Code := cpart [false, false] (exB P)
def exZ (P : Program) : Code := cpart [true, true, true, true] (bodyOf P 15)
section
variable (F : Fs) (hF : FsIs F) (f : Nat) (Held : Cra → Cra → Tel → ByteArray → Prop) (ao : Option Addr) (nn cap : Nat) (L : Nat → Int × ByteArray) (sl : Value)
def nxE (f : Nat) (t n i : Int) (sl : Value) (pl : List Value) (Q : VQ) (c : Cra) : Prop :=
 60 = 60 ∧ (ptrOk 3 sl && true) = true ∧ ∀ d, Q .normal (exF f t n (IntKind.i64.wrap (i + 1)) sl d) (exM pl c)
def exA (f : Nat) (t n i : Int) (sl : Value) (pl : List Value) (Q : VQ) (c : Cra) : Prop :=
 ptr 4 = ptr 4 ∧ ptr 2 = ptr 2 ∧ 60 = 60 ∧ (∃ c' : Cra, some (dCra.enc c) = some (dCra.enc c') ∧ some (dCra.enc c) = some (dCra.enc c')) ∧ nxE f t n i sl pl Q c
def exY (f : Nat) (Held : Cra → Cra → Tel → ByteArray → Prop) (t n i a : Int) (b : ByteArray) (sl : Value) (pl : List Value) (Q : VQ) (c d : Cra) (s : ByteArray) : Prop :=
 ToldOk s ∧ Value.bool true = .bool true ∧ Value.func (.func f) #[] #[] = .func (.func f) #[] #[] ∧ ptr 2 = ptr 2 ∧ ptr 4 = ptr 4 ∧ ptr 5 = ptr 5 ∧ ptr 3 = ptr 3 ∧ 60 = 60 ∧
  ∃ (c' d' : Cra) (T : Tel) (x : Value) (b' : ByteArray), (some (dCra.enc c) = some (dCra.enc c') ∧ some (dCra.enc d) = some (dCra.enc d') ∧ some (tEnc 13 (tlT (readS s))) = some (tEnc 13 T) ∧ some [Value.int .i64 a, .string b] = some [x, .string b']) ∧ Held c' d' T b' ∧ nxE f t n i sl pl Q d
set_option maxRecDepth 100000 in
theorem ex_round (k : Nat) (t n i : Int) (d : Nat → Value) (pl : List Value) (c : Cra) (Q : VQ) :
    swpO Tryz.prog (exT F hF) (fun _ => []) k (exO F hF f Held ao nn cap L sl) (exL Tryz.prog) Q (exF f t n i sl d) (exM pl c) =
      vif (decide (i < n)) ((0 ≤ i ∧ i.toNat < nn) ∧ sl = sl ∧ 3 = 3 ∧ 60 = 60 ∧ StepOk (c, IntKind.i64.wrap (t + gapW (L i.toNat).1), (L i.toNat).2) ∧
        vif (stays c (IntKind.i64.wrap (t + gapW (L i.toNat).1))) (exA f (IntKind.i64.wrap (t + gapW (L i.toNat).1)) n i sl pl Q c)
          (exY f Held (IntKind.i64.wrap (t + gapW (L i.toNat).1)) n i (L i.toNat).1 (L i.toNat).2 sl pl Q c (stepF F c (IntKind.i64.wrap (t + gapW (L i.toNat).1)) (L i.toNat).2).1 (bytesOf (tlOf (telF F (stepF F c (IntKind.i64.wrap (t + gapW (L i.toNat).1)) (L i.toNat).2).1)))))
      (Q (.exit 0) (exE f t n i sl d) (exM pl c)) := by kernel_rfl
set_option maxRecDepth 100000 in
theorem ex_end (k : Nat) (t n i : Int) (d : Nat → Value) (pl : List Value) (c : Cra) (Post : Value → Prop) :
    swpO Tryz.prog (exT F hF) (fun _ => []) k (exO F hF f Held ao nn cap L sl) (exZ Tryz.prog) (retQ Tryz.prog (fnOf Tryz.prog 15) (fun v _ => Post v)) (exE f t n i sl d) (exM pl c) = Post (.bool true) := by kernel_rfl
def exQ (k : Nat) (Q : VQ) : VQ := fun e vt m => match e with
 | .normal => swpO Tryz.prog (exT F hF) (fun _ => []) k (exO F hF f Held ao nn cap L sl) (exZ Tryz.prog) Q vt m
 | e => Q e vt m
set_option maxRecDepth 100000 in
theorem ex_start (k : Nat) (t : Int) (Q : VQ) :
    swpO Tryz.prog (exT F hF) (fun _ => []) k (exO F hF f Held ao nn cap L sl) (bodyOf Tryz.prog 15) Q ([.agg #[.int .i64 t, .slice ao nn cap], .func (.func f) #[] #[]] ++ List.replicate ((fnOf Tryz.prog 15).ntmps - 2) undef) [[]] =
      (ptr 1 = ptr 1 ∧ (∃ x, some [Value.int .i64 t, .slice ao nn cap] = some [x, .slice ao nn cap]) ∧ 60 = 60 ∧ 60 = 60 ∧ (ptrOk 3 sl && true) = true ∧ ∀ d, swpO Tryz.prog (exT F hF) (fun _ => []) k (exO F hF f Held ao nn cap L sl) (exB Tryz.prog) (exQ F hF f Held ao nn cap L sl k Q) (exF f t nn 0 sl d) (exM [.int .i64 t, .slice ao nn cap] zeroCra)) := by kernel_rfl
set_option maxRecDepth 100000 in
theorem ex_ov {B : Nat} {w : World} (hr : Recs w B ao nn cap L sl) (hc : HeldOk f Held) (go : ∀ (args : Array Value) (w : World), (callFunc f args).run Tryz.prog w = .ok (.enter f args) w) : OvOk Tryz.prog (exO F hF f Held ao nn cap L sl) [] w [] [some B] (bodyOf Tryz.prog 15) := by
 refine ovOk_by (ns := [(3, #[(opOf Tryz.prog 15 3 0), (opOf Tryz.prog 15 3 1), (opOf Tryz.prog 15 3 2), (opOf Tryz.prog 15 3 3)], false), (5, #[(opOf Tryz.prog 15 5 0), (opOf Tryz.prog 15 5 1), (opOf Tryz.prog 15 5 2), (opOf Tryz.prog 15 5 3)], false), (9, #[(opOf Tryz.prog 15 9 0), (opOf Tryz.prog 15 9 1), (opOf Tryz.prog 15 9 2)], false), (12, #[(opOf Tryz.prog 15 12 0), (opOf Tryz.prog 15 12 1), (opOf Tryz.prog 15 12 2), (opOf Tryz.prog 15 12 3), (opOf Tryz.prog 15 12 4), (opOf Tryz.prog 15 12 5), (opOf Tryz.prog 15 12 6), (opOf Tryz.prog 15 12 7), (opOf Tryz.prog 15 12 8), (opOf Tryz.prog 15 12 9), (opOf Tryz.prog 15 12 10), (opOf Tryz.prog 15 12 11)], false), (15, opsOf Tryz.prog 15 15, false)]) (by kernel_rfl) ?_
 intro r hr'
 rcases List.mem_cons.1 hr' with rfl | hr'
 ·intro R hR K Q bl vt m a w1 h r hK
  cases hR
  refine eSl_sound (by decide) (by decide) (by decide) (by decide) (B := B) (K := forget exK 60 3 K) (tP := 61) (tS := 22) (tE := 44) rfl hr (by kernel_rfl) (by kernel_rfl) (by kernel_rfl) rfl ⟨by kernel_rfl, by kernel_rfl, by kernel_rfl⟩ ⟨by kernel_rfl, by kernel_rfl, by kernel_rfl⟩ ⟨by kernel_rfl, by kernel_rfl, by kernel_rfl⟩ ⟨by kernel_rfl, by kernel_rfl, by kernel_rfl⟩ h r (fun bl vt m a w hk hrl => ?_)
  obtain ⟨bl', vt', m', k1, k2⟩ := hrl.cut (show 1 ≤ 3 by decide) hk
  exact hK bl' vt' m' a w k1 k2
 rcases List.mem_cons.1 hr' with rfl | hr'
 ·intro R hR K Q bl vt m a w1 h r hK
  cases hR
  exact eRec_sound (by decide) (by decide) (by decide) (by decide) (B := B) (tS := 22) (tR := 44) (z := .agg #[.int .i64 0, .string ⟨#[]⟩]) rfl hr (by kernel_rfl) (by kernel_rfl) (by kernel_rfl) (by kernel_rfl) rfl rfl ⟨by kernel_rfl, by kernel_rfl, by kernel_rfl⟩ ⟨by kernel_rfl, by kernel_rfl, by kernel_rfl⟩ ⟨by kernel_rfl, by kernel_rfl, by kernel_rfl⟩ ⟨by kernel_rfl, by kernel_rfl, by kernel_rfl⟩ h r hK
 rcases List.mem_cons.1 hr' with rfl | hr'
 ·intro R hR K Q bl vt m a w1 h r hK
  cases hR
  exact eN_sound (tC := 42) rfl rfl ⟨by kernel_rfl, by kernel_rfl, by kernel_rfl⟩ ⟨by kernel_rfl, by kernel_rfl, by kernel_rfl⟩ ⟨by kernel_rfl, by kernel_rfl, by kernel_rfl⟩ h r hK
 rcases List.mem_cons.1 hr' with rfl | hr'
 ·intro R hR K Q bl vt m a w1 h r hK
  cases hR
  exact eH_sound (tC := 42) (tT := 55) (tR := 44) (tS := 9) (tB := 4) rfl rfl (by kernel_rfl) (by kernel_rfl) go hc rfl ⟨by kernel_rfl, by kernel_rfl, by kernel_rfl⟩ ⟨by kernel_rfl, by kernel_rfl, by kernel_rfl⟩ ⟨by kernel_rfl, by kernel_rfl, by kernel_rfl⟩ ⟨by kernel_rfl, by kernel_rfl, by kernel_rfl⟩ ⟨by kernel_rfl, by kernel_rfl, by kernel_rfl⟩ ⟨by kernel_rfl, by kernel_rfl, by kernel_rfl⟩ ⟨by kernel_rfl, by kernel_rfl, by kernel_rfl⟩ ⟨by kernel_rfl, by kernel_rfl, by kernel_rfl⟩ ⟨by kernel_rfl, by kernel_rfl, by kernel_rfl⟩ ⟨by kernel_rfl, by kernel_rfl, by kernel_rfl⟩ ⟨by kernel_rfl, by kernel_rfl, by kernel_rfl⟩ ⟨by kernel_rfl, by kernel_rfl, by kernel_rfl⟩ h r hK
 rcases List.mem_cons.1 hr' with rfl | hr'
 ·intro R hR K Q bl vt m a w1 h r hK
  cases hR
  exact cutBy_sound xmixA (show 1 ≤ 3 by decide) h r hK
 ·cases hr'
end
def remS (L : Nat → Int × ByteArray) : Nat → Nat → Nat
 | _, 0 => 0
 | i, k + 1 => (L i).2.size + remS L (i + 1) k
def ExR (F : Fs) (f : Nat) (Held : Cra → Cra → Tel → ByteArray → Prop) (nn : Nat) (L : Nat → Int × ByteArray) (sl : Value) (G : VQ → List Value → Xm → Prop) : Prop := ∀ (t n i : Int) (d : Nat → Value) (pl : List Value) (c : Cra) (Q : VQ), G Q (exF f t n i sl d) (exM pl c) =
      vif (decide (i < n)) ((0 ≤ i ∧ i.toNat < nn) ∧ sl = sl ∧ 3 = 3 ∧ 60 = 60 ∧ StepOk (c, IntKind.i64.wrap (t + gapW (L i.toNat).1), (L i.toNat).2) ∧
        vif (stays c (IntKind.i64.wrap (t + gapW (L i.toNat).1))) (exA f (IntKind.i64.wrap (t + gapW (L i.toNat).1)) n i sl pl Q c)
          (exY f Held (IntKind.i64.wrap (t + gapW (L i.toNat).1)) n i (L i.toNat).1 (L i.toNat).2 sl pl Q c (stepF F c (IntKind.i64.wrap (t + gapW (L i.toNat).1)) (L i.toNat).2).1 (bytesOf (tlOf (telF F (stepF F c (IntKind.i64.wrap (t + gapW (L i.toNat).1)) (L i.toNat).2).1)))))
      (Q (.exit 0) (exE f t n i sl d) (exM pl c))
def HeldAllI (F : Fs) (I : Cra → Prop) (Held : Cra → Cra → Tel → ByteArray → Prop) : Prop := ∀ c t b, CInv c → I c → c.2.2.1.size + b.size ≤ 5000 → stays c t = false → Took F c t b (stepF F c t b).1 → Held c (stepF F c t b).1 (telF F (stepF F c t b).1) b ∧ I (stepF F c t b).1
theorem took_left {F : Fs} {c d : Cra} {t : Int} {b : ByteArray} (h : Took F c t b d) : d.2.2.1.size ≤ c.2.2.1.size + b.size := by
 rw [h.left]
 refine Nat.le_trans (rest_size _) ?_
 show (c.2.2.1 ++ b).size ≤ _
 rw [ByteArray.size_append]
 exact Nat.le_refl _
theorem ex_loop {F : Fs} (hF : FsIs F) {f : Nat} {Held : Cra → Cra → Tel → ByteArray → Prop} {nn : Nat} {L : Nat → Int × ByteArray} {sl : Value} {G : VQ → List Value → Xm → Prop} (hG : ExR F f Held nn L sl G) (hn : nn ≤ 1000000) (hp : ptrOk 1 sl = true) {I : Cra → Prop} (hH : HeldAllI F I Held) (Q : VQ) (pl : List Value)
    (hQ : ∀ t i d c, Q (.exit 0) (exE f t nn i sl d) (exM pl c)) (k : Nat) : ∀ (i : Nat), i + k = nn → ∀ (t : Int) (d : Nat → Value) (c : Cra), CInv c → I c → c.2.2.1.size + remS L i k ≤ 3000 → loopN (k + 1) G Q (exF f t nn i sl d) (exM pl c) := by
 have hp3 : ptrOk 3 sl = true := by
  match sl, hp with
  | .pointer (some a), hp => exact decide_eq_true (by have := of_decide_eq_true hp; omega)
  | .slice (some a) _ _, hp => exact decide_eq_true (by have := of_decide_eq_true hp; omega)
  | .slice none _ _, _ => rfl
  | .pointer none, _ => rfl
  | .bool _, _ => rfl
  | .int _ _, _ => rfl
  | .float _ _, _ => rfl
  | .complex _ _ _, _ => rfl
  | .string _, _ => rfl
  | .map _, _ => rfl
  | .chan _, _ => rfl
  | .func _ _ _, _ => rfl
  | .nilFunc, _ => rfl
  | .nilIface, _ => rfl
  | .iface _ _, _ => rfl
  | .agg _, _ => rfl
  | .tuple _, _ => rfl
 induction k with
 | zero =>
  intro i e t d c _ _ _
  rw [loopN, hG, decide_eq_false (by omega)]
  exact hQ _ _ _ _
 | succ k ih =>
  intro i e t d c hi hI hz
  have hz : c.2.2.1.size + ((L i).2.size + remS L (i + 1) k) ≤ 3000 := hz
  rw [loopN, hG, decide_eq_true (by omega), Int.toNat_natCast]
  have hw : IntKind.i64.wrap ((i : Int) + 1) = ((i + 1 : Nat) : Int) := by
   rw [IntKind.wrap_i64]
   omega
  generalize IntKind.i64.wrap (t + gapW (L i).1) = t'
  refine ⟨⟨by omega, by omega⟩, rfl, rfl, rfl, ⟨hi, by show c.2.2.1.size + (L i).2.size ≤ 5000; omega⟩, ?_⟩
  cases hs : stays c t'
  ·have hk := took hF hi (L i).2 hs
   have hl := took_left hk.1
   have hh := hH c t' (L i).2 hi hI (by omega) hs hk.1
   have hto : tlOk (tlOf (telF F (stepF F c t' (L i).2).1)) = true := tel_ok F hk.1.inv
   refine ⟨⟨_, hto, rfl⟩, rfl, rfl, rfl, rfl, rfl, rfl, rfl, c, _, _, _, _, ⟨rfl, rfl, rfl, rfl⟩, ?_, rfl, by rw [hp3]; rfl, fun d => ?_⟩
   ·rw [readS_of hto, tlT_of]
    exact hh.1
   ·rw [hw]
    exact ih (i + 1) (by omega) t' d _ hk.1.inv hh.2 (by omega)
  ·refine ⟨rfl, rfl, rfl, ⟨c, rfl, rfl⟩, rfl, by rw [hp3]; rfl, fun d => ?_⟩
   rw [hw]
   exact ih (i + 1) (by omega) t' d c hi hI (by omega)
set_option maxRecDepth 100000 in
theorem each_atI {F : Fs} (hF : FsIs F) {f : Nat} {Held : Cra → Cra → Tel → ByteArray → Prop} (hc : HeldOk f Held) (go : ∀ (args : Array Value) (w : World), (callFunc f args).run Tryz.prog w = .ok (.enter f args) w) {I : Cra → Prop} (h0 : I zeroCra) (hH : HeldAllI F I Held) {B : Nat} {ao : Option Addr} {nn cap : Nat} {L : Nat → Int × ByteArray} {sl : Value} (t : Int) (w : World) (hw : GW w) (hr : Recs w B ao nn cap L sl) (hn : nn ≤ 1000000) (hz : remS L 0 nn ≤ 3000) :
    Calls Tryz.prog 15 #[.agg #[.int .i64 t, .slice ao nn cap], .func (.func f) #[] #[]] w fun e w' => e = .returned (.bool true) ∧ Below w.heap.size w w' := by
 have R : RW [] w [some B] [[]] w := by
  refine ⟨fun i C hi => ?_, fun i j C hi hj => ?_, fun i C hi => ?_, rfl, rfl, rfl, Nat.le_refl _, fun _ _ _ => rfl, hw, fun b hb => by cases hb⟩
  ·match i, hi with
   | 0, hi => cases hi; exact ⟨[], rfl, fun i h => absurd h (Nat.not_lt_zero i), fun i h => absurd h (Nat.not_lt_zero i), hr.lies⟩
  ·match i, j, hi, hj with
   | 0, 0, _, _ => rfl
  ·match i, hi with
   | 0, _ => exact .inr (.inr rfl)
 refine Calls.mono (calls_sxO (tbl := exT F hF) (dirty := fun _ => []) (n := nn + 1) (ov := exO F hF f Held ao nn cap L sl) xmixA (f := 15) (fn := fnOf Tryz.prog 15) (c := bodyOf Tryz.prog 15) (by kernel_rfl) (by kernel_rfl) (vargs := [.agg #[.int .i64 t, .slice ao nn cap], .func (.func f) #[] #[]]) R rfl rfl (fun i => ?_) (Post := fun v _ => v = .bool true) (ex_ov F hF f Held ao nn cap L sl hr hc go) ?_) ?_
 ·match i with
  | 0 => rfl
  | 1 => rfl
  | _ + 2 => rfl
 ·refine Eq.mpr (ex_start F hF f Held ao nn cap L sl (nn + 1) t _) ⟨rfl, ⟨_, rfl⟩, rfl, rfl, ?_, fun d => ?_⟩
  ·have := hr.ok
   match sl, this with
   | .pointer (some a), hp => exact (Bool.and_true _).trans (decide_eq_true (by have := of_decide_eq_true hp; omega))
   | .slice (some a) _ _, hp => exact (Bool.and_true _).trans (decide_eq_true (by have := of_decide_eq_true hp; omega))
   | .slice none _ _, _ => rfl
   | .pointer none, _ => rfl
   | .bool _, _ => rfl
   | .int _ _, _ => rfl
   | .float _ _, _ => rfl
   | .complex _ _ _, _ => rfl
   | .string _, _ => rfl
   | .map _, _ => rfl
   | .chan _, _ => rfl
   | .func _ _ _, _ => rfl
   | .nilFunc, _ => rfl
   | .nilIface, _ => rfl
   | .iface _ _, _ => rfl
   | .agg _, _ => rfl
   | .tuple _, _ => rfl
  ·exact ex_loop hF (fun t n i d pl c Q => ex_round F hF f Held ao nn cap L sl (nn + 1) t n i d pl c Q) hn hr.ok hH _ _ (fun t i d c => Eq.mpr (ex_end F hF f Held ao nn cap L sl (nn + 1) t nn i d _ c (fun v => v = .bool true)) rfl) nn 0 (by omega) t d zeroCra CInv.zero h0 (by show 0 + _ ≤ 3000; omega)
 ·rintro e w' ⟨v, bl', m2, rfl, rfl, R', _⟩
  exact ⟨rfl, R'.os, R'.tape, R'.output, R'.size, fun i hi => R'.block i hi (by simp)⟩
end Go.Proofs.YtbophanlmkbfeaaGreatDoor
namespace Go.Proofs.YtbophanlmkbfeaaGreatDoor
open Go.RowKit
theorem take_none (F : Fs) (t : Int) : takeW F zeroCra t noBytes = (leftC zeroCra (restOf []), zeroHea) := rfl
theorem cnt_small (b : Bool) : cntW 0 b ≤ 1 := by
 unfold cntW
 cases b
 ·decide
 ·decide
theorem zero_next {s : See} (h : s.2.2.2.2.2.2.2 = 0) : (nextT ((0, 0, 0, 0, 0, 0, ()), s)).1 = 0 := by
 show (nextW ⟨0, 0, 0, 0, 0, 0⟩ (snOf s)).mode = 0
 have h1 : ¬ (snOf s).order = 1 := by
  show ¬ s.2.2.2.2.2.2.2 = 1
  omega
 unfold nextW nextV
 rw [if_neg h1, if_neg (by decide), if_pos rfl]
 unfold detW
 dsimp only
 rw [if_neg (by have := cnt_small ((snOf s).gyro && (snOf s).slow); omega)]
theorem first_step {F : Fs} (hF : FsIs F) : (stepF F zeroCra 5 noBytes).1.1 = true ∧ (telF F (stepF F zeroCra 5 noBytes).1).1 = 5 ∧ (telF F (stepF F zeroCra 5 noBytes).1).2.1 = 0 ∧ CInv (stepF F zeroCra 5 noBytes).1 := by
 have hs : stays zeroCra 5 = false := rfl
 obtain ⟨k, _⟩ := took hF CInv.zero noBytes hs
 refine ⟨k.on, k.tick, ?_, k.inv⟩
 show (cPlan (stepF F zeroCra 5 noBytes).1).1 = 0
 obtain ⟨p, s, hp, _, ho, _, hn⟩ := k.plan
 rw [take_none] at ho
 have hp : p = (0, 0, 0, 0, 0, 0, ()) := by
  rcases hp with e | e <;> rw [e] <;> rfl
 subst hp
 have hz := zero_next ho
 rcases hn with e | ⟨e, _⟩
 ·rw [e]
  exact hz
 ·exact absurd (hz.symm.trans e) (by decide)
set_option maxRecDepth 100000 in
theorem lights_at {F : Fs} (hF : FsIs F) (w : World) (hw : GW w) : Calls Tryz.prog 13 #[] w fun e w' => e = .returned (.bool true) ∧ Below w.heap.size w w' := by
 obtain ⟨h1, h2, h3, hi⟩ := first_step hF
 have hto := tel_ok F hi
 have hb := (took hF CInv.zero noBytes (show stays zeroCra 5 = false from rfl)).2
 have hst : ∀ w, GW w → Calls Tryz.prog 9 ((then' cCra (then' cI (lone' cS))).enc (zeroCra, 5, noBytes)).toArray w fun e w' => e = .returned ((two' cCra cS).enc ((true, (stepF F zeroCra 5 noBytes).1.2), bytesOf (tlOf (telF F (stepF F zeroCra 5 noBytes).1)))) ∧ Below w.heap.size w w' := fun w hw => by
  have := stepF_at hF.ok zeroCra 5 noBytes (show (0 : Nat) ≤ 5000 by decide) w hw
  rw [hb] at this
  rw [show ((true, (stepF F zeroCra 5 noBytes).1.2) : Cra) = (stepF F zeroCra 5 noBytes).1 from by rw [← h1]]
  exact this
 generalize (stepF F zeroCra 5 noBytes).1 = d at h1 h2 h3 hi hto hst
 have htd : ∀ w, GW w → Calls Tryz.prog 34 ((lone' cS).enc (bytesOf (tlOf (telF F d)))).toArray w fun e w' => e = .returned ((two' (cT 13) cB).enc ((5, 0, (telF F d).2.2), true)) ∧ Below w.heap.size w w' := fun w hw => by
  have := told_at ⟨_, hto, rfl⟩ w hw
  rw [readS_of hto, tlT_of] at this
  rw [show ((5, 0, (telF F d).2.2) : Tel) = telF F d from by rw [← h2, ← h3]; rfl]
  exact this
 generalize (telF F d).2.2 = T at htd
 generalize bytesOf (tlOf (telF F d)) = s at hst htd
 generalize d.2 = e at hst
 refine pure_at (d := none') (k := cB) (x := ()) (y := true) (tbl := [ctAt Tryz.prog 9 (then' cCra (then' cI (lone' cS))) (two' cCra cS) (zeroCra, 5, noBytes) ((true, e), s) (go_of Tryz.func9 (by kernel_rfl) (by kernel_rfl)) hst, ctAt Tryz.prog 34 (lone' cS) (two' (cT 13) cB) s ((5, 0, T), true) (go_of Tryz.func34 (by kernel_rfl) (by kernel_rfl)) htd]) (dirty := fun _ => []) (n := 4) xmixA Tryz.func13 rfl (fun Post hP => ?_) w hw
 refine Eq.mpr (β := (then' cCra (then' cI (lone' cS))).enc (zeroCra, 5, noBytes) = (then' cCra (then' cI (lone' cS))).enc (zeroCra, 5, noBytes) ∧ (lone' cS).enc s = (lone' cS).enc s ∧ PJ cB Post true) (by kernel_rfl) ⟨rfl, rfl, hP⟩
def liK : List Nat := [1, 3, 8, 9, 7]
def liF (s n i : Int) (sl : Value) (d : Nat → Value) : List Value := frm [(1, ptr 1), (3, .int .i64 s), (8, .int .i64 n), (9, .int .i64 i), (7, sl)] d 35
def liE (s n i : Int) (sl : Value) (d : Nat → Value) : List Value := vset ((liF s n i sl d).set 10 (.bool (decide (i < n)))) (.tmp 10) false
def lgE (ao : Option Addr) (n cap : Nat) (sl : Value) (ops : Array Oper) (K : List Value → Xm → Prop) (vt : List Value) (m : Xm) : Prop :=
 vt.getD 1 undef = .pointer (some ⟨1, 0, none⟩) ∧ (∃ x, m[1]? = some [x, .slice ao n cap]) ∧ vt.length = 35 ∧ vseq Tryz.prog [] ops (nid 0 ops) K [3, 4, 5, 6, 7, 8, 9, 10, 11, 12, 13, 14] (((vt.set 21 .nilIface).set 22 sl).set 23 (.int .i64 (n : Nat))) m
def liO (ao : Option Addr) (n cap : Nat) (L : Nat → Int × ByteArray) (sl : Value) : Ov := fun id => match id with
 | 2 => some fun _ _ K => eSl 1 6 7 8 9 35 ao n cap sl (forget liK 35 2 K)
 | 4 => some fun _ _ => eRec 7 9 11 12 5 2 35 n L sl
 | 8 => some (cutBy Tryz.prog [] (fun _ => []) 8 liK 35 2)
 | 9 => some fun ops _ => lgE ao n cap sl ops
 | _ => none
def liB (P : Program) : Code := cpart [true, true, false, true] (bodyOf P 14)
def liL (P : Program) : Code := cpart [false, false] (liB P)
def liZ (P : Program) : Code := cpart [true, true, true] (bodyOf P 14)
def retOf (P : Program) (fn : Func) (Post : Value → Prop) (Q : VQ) : VQ := fun e vt m => match e with
 | .ret => retQ P fn (fun v _ => Post v) .ret vt m
 | e => Q e vt m
section
variable (ao : Option Addr) (nn cap : Nat) (L : Nat → Int × ByteArray) (sl : Value)
set_option maxRecDepth 100000 in
theorem li_round (k : Nat) (s n i : Int) (d : Nat → Value) (pl : List Value) (Post : Value → Prop) (Q : VQ) :
    swpO Tryz.prog [] (fun _ => []) k (liO ao nn cap L sl) (liL Tryz.prog) (retOf Tryz.prog (fnOf Tryz.prog 14) Post Q) (liF s n i sl d) [[], pl] =
      vif (decide (i < n)) ((0 ≤ i ∧ i.toNat < nn) ∧ sl = sl ∧ 2 = 2 ∧ 35 = 35 ∧ vif (decide (IntKind.i64.wrap (s + ((L i.toNat).2.size : Nat)) > 3000)) (Post (.bool false)) (35 = 35 ∧ (ptrOk 2 sl && true) = true ∧ ∀ d, Q .normal (liF (IntKind.i64.wrap (s + ((L i.toNat).2.size : Nat))) n (IntKind.i64.wrap (i + 1)) sl d) [[], pl]))
      (Q (.exit 0) (liE s n i sl d) [[], pl]) := by kernel_rfl
set_option maxRecDepth 100000 in
theorem li_end (k : Nat) (s n i t : Int) (d : Nat → Value) (Post : Value → Prop) :
    swpO Tryz.prog [] (fun _ => []) k (liO ao nn cap L sl) (liZ Tryz.prog) (retQ Tryz.prog (fnOf Tryz.prog 14) (fun v _ => Post v)) (liE s n i sl d) [[], [.int .i64 t, .slice ao nn cap]] =
      (ptr 1 = ptr 1 ∧ (∃ x, some [Value.int .i64 t, .slice ao nn cap] = some [x, .slice ao nn cap]) ∧ 35 = 35 ∧ vif (decide (((nn : Nat) : Int) ≤ 30)) (vif (decide (t ≥ 0)) (Post (.bool (decide (t ≤ 157766400000)))) (Post (.bool false))) (Post (.bool false))) := by kernel_rfl
def liQ (k : Nat) (Q : VQ) : VQ := fun e vt m => match e with
 | .normal => swpO Tryz.prog [] (fun _ => []) k (liO ao nn cap L sl) (liZ Tryz.prog) Q vt m
 | e => Q e vt m
set_option maxRecDepth 100000 in
theorem li_start (k : Nat) (t : Int) (Q : VQ) :
    swpO Tryz.prog [] (fun _ => []) k (liO ao nn cap L sl) (bodyOf Tryz.prog 14) Q ([.agg #[.int .i64 t, .slice ao nn cap]] ++ List.replicate ((fnOf Tryz.prog 14).ntmps - 1) undef) [[]] =
      (ptr 1 = ptr 1 ∧ (∃ x, some [Value.int .i64 t, .slice ao nn cap] = some [x, .slice ao nn cap]) ∧ 35 = 35 ∧ 35 = 35 ∧ (ptrOk 2 sl && true) = true ∧ ∀ d, swpO Tryz.prog [] (fun _ => []) k (liO ao nn cap L sl) (liB Tryz.prog) (liQ ao nn cap L sl k Q) (liF 0 nn 0 sl d) [[], [.int .i64 t, .slice ao nn cap]]) := by kernel_rfl
end
theorem lgE_sound {w0 : World} {ds : List Deferred} {bl0 : Bl} {K : List Value → Xm → Prop} {Q : Exit → Act → World → Prop} {bl : Bl} {vt : List Value} {m : Xm} {a : Act} {w : World} {B : Nat} {ao : Option Addr} {n cap : Nat} {L : Nat → Int × ByteArray} {sl : Value} {ops : Array Oper} {id : Nat} {o0 o1 o2 : Oper} {tP tS tE : TypeId} (hb0 : bl0[0]? = some (some B)) (hr : Recs w0 B ao n cap L sl) (hfl : fieldV Tryz.prog tP 1 = some 1) (hag : qrun Tryz.prog (isAgg tS) = some false) (hu : Tryz.prog.underlying tS = some (.slice tE)) (hsz : ops.size = 15) (hnew : ops.all (fun o => !isNew o) = true)
    (g0 : ops[0]? = some o0) (g1 : ops[1]? = some o1) (g2 : ops[2]? = some o2) (h0 : o0.dst = some 21 ∧ o0.op = .fieldAddr tP (.tmp 1) 1 ∧ o0.guard = none) (h1 : o1.dst = some 22 ∧ o1.op = .load tS (.tmp 21) ∧ o1.guard = none) (h2 : o2.dst = some 23 ∧ o2.op = .call { callee := .builtin .len, args := #[.tmp 22], argTypes := #[tS] } ∧ o2.guard = none)
    (h : lgE ao n cap sl ops K vt m) (r : Rl [] w0 ds bl0 bl vt m a w) (hK : ∀ bl vt m a w, K vt m → Rl [] w0 ds bl0 bl vt m a w → Q .normal a w) : (Code.region id ops false).wp Tryz.prog Q a w := by
 have hlen := r.F.len
 obtain ⟨hp, ⟨x0, hm⟩, hlt, hk⟩ := h
 rw [hlt] at hlen
 have hp' := r.F.rv 1
 rw [hp] at hp'
 obtain ⟨C, hC, E1⟩ := hp'
 have E1 : a.eval (.tmp 1) = .pointer (some ⟨C, 0, none⟩) := E1
 obtain ⟨row, e0, A0⟩ := r.R.arr 1 C hC
 have e0 : m[1]? = some row := e0
 rw [hm] at e0
 cases e0
 have hld : loadV Tryz.prog tS [x0, .slice ao n cap] 1 = some (.slice ao n cap) := by unfold loadV; rw [hag]; rfl
 have rld := loadV_run hld A0
 have rfl1 := fieldV_run hfl C 0 w
 have hrv := hr.rv bl (r.le 0 B hb0)
 have r0 := run_under hu w
 have F := r.F
 have D := r.defers
 refine wp_region ?_
 rw [hsz]
 refine ops_valS (v := .nilIface) (v' := (.pointer (some ⟨C, 1, none⟩))) (w' := w) g0 h0.1 (unguarded h0.2.2) (by simp [execOp, h0.2.1, E1, rfl1]) F D hlen (by decide) (rfl) fun a F D hlen E21 X => ?_
 refine ops_valS (v := sl) (v' := (.slice ao n cap)) (w' := w) g1 h1.1 (unguarded h1.2.2) (by simp [execOp, h1.2.1, E21, Instr.loadAt, Instr.sureAddr, rld]) F D hlen (by decide) (hrv) fun a F D hlen E22 X => ?_
 refine ops_valS (v := .int .i64 (n : Nat)) (v' := (.int .i64 (n : Nat))) (w' := w) g2 h2.1 (unguarded h2.2.2) (by simp [execOp, h2.2.1, resolve, invoke, builtin, E22, Builtin.len_, r0, goInt]) F D hlen (by decide) (rfl) fun a F D hlen E23 X => ?_
 refine vseq_sound (base := 0) (rs := m) (ln := m.length) (bl0 := bl0) (tbl := []) (fun bl' vt' m' a' w' hk F R hle hl hml hd => hK bl' vt' m' a' w' hk ⟨F, R, hle, hl.trans hml.symm, hd⟩) [3, 4, 5, 6, 7, 8, 9, 10, 11, 12, 13, 14] bl _ m _ w (by decide) hk F r.R (fun _ _ => rfl) ?_ r.le r.len rfl D
 intro i _ o ho hn
 have := Array.all_eq_true_iff_forall_mem.1 hnew o (Array.mem_of_getElem? ho)
 rw [hn] at this
 cases this
section
variable (ao : Option Addr) (nn cap : Nat) (L : Nat → Int × ByteArray) (sl : Value)
set_option maxRecDepth 100000 in
theorem li_ov {B : Nat} {w : World} (hr : Recs w B ao nn cap L sl) : OvOk Tryz.prog (liO ao nn cap L sl) [] w [] [some B] (bodyOf Tryz.prog 14) := by
 refine ovOk_by (ns := [(2, #[(opOf Tryz.prog 14 2 0), (opOf Tryz.prog 14 2 1), (opOf Tryz.prog 14 2 2), (opOf Tryz.prog 14 2 3)], false), (4, #[(opOf Tryz.prog 14 4 0), (opOf Tryz.prog 14 4 1), (opOf Tryz.prog 14 4 2), (opOf Tryz.prog 14 4 3)], false), (8, opsOf Tryz.prog 14 8, false), (9, opsOf Tryz.prog 14 9, false)]) (by kernel_rfl) ?_
 intro r hr'
 rcases List.mem_cons.1 hr' with rfl | hr'
 ·intro R hR K Q bl vt m a w1 h r hK
  cases hR
  refine eSl_sound (by decide) (by decide) (by decide) (by decide) (B := B) (K := forget liK 35 2 K) (tP := 61) (tS := 22) (tE := 44) rfl hr (by kernel_rfl) (by kernel_rfl) (by kernel_rfl) rfl ⟨by kernel_rfl, by kernel_rfl, by kernel_rfl⟩ ⟨by kernel_rfl, by kernel_rfl, by kernel_rfl⟩ ⟨by kernel_rfl, by kernel_rfl, by kernel_rfl⟩ ⟨by kernel_rfl, by kernel_rfl, by kernel_rfl⟩ h r (fun bl vt m a w hk hrl => ?_)
  obtain ⟨bl', vt', m', k1, k2⟩ := hrl.cut (show 1 ≤ 2 by decide) hk
  exact hK bl' vt' m' a w k1 k2
 rcases List.mem_cons.1 hr' with rfl | hr'
 ·intro R hR K Q bl vt m a w1 h r hK
  cases hR
  exact eRec_sound (by decide) (by decide) (by decide) (by decide) (B := B) (tS := 22) (tR := 44) (z := .agg #[.int .i64 0, .string ⟨#[]⟩]) rfl hr (by kernel_rfl) (by kernel_rfl) (by kernel_rfl) (by kernel_rfl) rfl rfl ⟨by kernel_rfl, by kernel_rfl, by kernel_rfl⟩ ⟨by kernel_rfl, by kernel_rfl, by kernel_rfl⟩ ⟨by kernel_rfl, by kernel_rfl, by kernel_rfl⟩ ⟨by kernel_rfl, by kernel_rfl, by kernel_rfl⟩ h r hK
 rcases List.mem_cons.1 hr' with rfl | hr'
 ·intro R hR K Q bl vt m a w1 h r hK
  cases hR
  exact cutBy_sound xmixA (show 1 ≤ 2 by decide) h r hK
 rcases List.mem_cons.1 hr' with rfl | hr'
 ·intro R hR K Q bl vt m a w1 h r hK
  cases hR
  exact lgE_sound (B := B) (o0 := (opOf Tryz.prog 14 9 0)) (o1 := (opOf Tryz.prog 14 9 1)) (o2 := (opOf Tryz.prog 14 9 2)) (tP := 61) (tS := 22) (tE := 44) rfl hr (by kernel_rfl) (by kernel_rfl) (by kernel_rfl) (by kernel_rfl) (by kernel_rfl) (by kernel_rfl) (by kernel_rfl) (by kernel_rfl) ⟨by kernel_rfl, by kernel_rfl, by kernel_rfl⟩ ⟨by kernel_rfl, by kernel_rfl, by kernel_rfl⟩ ⟨by kernel_rfl, by kernel_rfl, by kernel_rfl⟩ h r hK
 ·cases hr'
end
theorem ptrOk_le {sl : Value} (h : ptrOk 1 sl = true) {k : Nat} (hk : 1 ≤ k) : ptrOk k sl = true := by
 match sl, h with
 | .pointer (some a), hp => exact decide_eq_true (by have := of_decide_eq_true hp; omega)
 | .slice (some a) _ _, hp => exact decide_eq_true (by have := of_decide_eq_true hp; omega)
 | .slice none _ _, _ => rfl
 | .pointer none, _ => rfl
 | .bool _, _ => rfl
 | .int _ _, _ => rfl
 | .float _ _, _ => rfl
 | .complex _ _ _, _ => rfl
 | .string _, _ => rfl
 | .map _, _ => rfl
 | .chan _, _ => rfl
 | .func _ _ _, _ => rfl
 | .nilFunc, _ => rfl
 | .nilIface, _ => rfl
 | .iface _ _, _ => rfl
 | .agg _, _ => rfl
 | .tuple _, _ => rfl
def LiR (P : Program) (fn : Func) (nn : Nat) (L : Nat → Int × ByteArray) (sl : Value) (Post : Value → Prop) (G : VQ → List Value → Xm → Prop) : Prop := ∀ (s n i : Int) (d : Nat → Value) (pl : List Value) (Q : VQ), G (retOf P fn Post Q) (liF s n i sl d) [[], pl] =
      vif (decide (i < n)) ((0 ≤ i ∧ i.toNat < nn) ∧ sl = sl ∧ 2 = 2 ∧ 35 = 35 ∧ vif (decide (IntKind.i64.wrap (s + ((L i.toNat).2.size : Nat)) > 3000)) (Post (.bool false)) (35 = 35 ∧ (ptrOk 2 sl && true) = true ∧ ∀ d, Q .normal (liF (IntKind.i64.wrap (s + ((L i.toNat).2.size : Nat))) n (IntKind.i64.wrap (i + 1)) sl d) [[], pl]))
      (Q (.exit 0) (liE s n i sl d) [[], pl])
theorem loop_ret {P : Program} {fn : Func} {Post : Value → Prop} {k : Nat} {G : VQ → List Value → Xm → Prop} {Q : VQ} {vt : List Value} {m : Xm} : loopN (k + 1) G (retOf P fn Post Q) vt m = G (retOf P fn Post (fun e vt' m' => match e with
    | .normal => loopN k G (retOf P fn Post Q) vt' m'
    | e => Q e vt' m')) vt m := by
 rw [loopN]
 congr 1
 funext e vt' m'
 cases e <;> rfl
theorem li_loop {P : Program} {fn : Func} {nn : Nat} {L : Nat → Int × ByteArray} {sl : Value} {Post : Value → Prop} {G : VQ → List Value → Xm → Prop} (hG : LiR P fn nn L sl Post G) (hn : nn ≤ 1000000000000000) (hz : ∀ i, i < nn → (L i).2.size ≤ 1000000000000000) (hp : ptrOk 1 sl = true) (hf : Post (.bool false)) (Q : VQ) (pl : List Value)
    (hQ : ∀ s i d, s + 0 ≤ 3000 → remS L 0 nn = s → Q (.exit 0) (liE s nn i sl d) [[], pl]) (k : Nat) : ∀ (i : Nat), i + k = nn → ∀ (s : Nat) (d : Nat → Value), s ≤ 3000 → remS L 0 nn = s + remS L i k → loopN (k + 1) G (retOf P fn Post Q) (liF s nn i sl d) [[], pl] := by
 induction k with
 | zero =>
  intro i e s d hs hr
  rw [loop_ret, hG, decide_eq_false (by omega)]
  exact hQ s i d (by omega) hr
 | succ k ih =>
  intro i e s d hs hr
  have hr : remS L 0 nn = s + ((L i).2.size + remS L (i + 1) k) := hr
  have hzi := hz i (by omega)
  rw [loop_ret, hG, decide_eq_true (by omega), Int.toNat_natCast]
  have hw : IntKind.i64.wrap ((i : Int) + 1) = ((i + 1 : Nat) : Int) := by
   rw [IntKind.wrap_i64]
   omega
  have hv : IntKind.i64.wrap ((s : Int) + ((L i).2.size : Nat)) = ((s + (L i).2.size : Nat) : Int) := by
   rw [IntKind.wrap_i64]
   omega
  rw [hw, hv]
  refine ⟨⟨by omega, by omega⟩, rfl, rfl, rfl, ?_⟩
  by_cases hg : ((s + (L i).2.size : Nat) : Int) > 3000
  ·rw [decide_eq_true hg]
   exact hf
  ·rw [decide_eq_false hg]
   refine ⟨rfl, by rw [ptrOk_le hp (by decide)]; rfl, fun d => ?_⟩
   exact ih (i + 1) (by omega) (s + (L i).2.size) d (by omega) (by omega)
set_option maxRecDepth 100000 in
theorem light_at {B : Nat} {ao : Option Addr} {nn cap : Nat} {L : Nat → Int × ByteArray} {sl : Value} (t : Int) (w : World) (hw : GW w) (hr : Recs w B ao nn cap L sl) (hn : nn ≤ 1000000000000000) (hz : ∀ i, i < nn → (L i).2.size ≤ 1000000000000000) :
    Calls Tryz.prog 14 #[.agg #[.int .i64 t, .slice ao nn cap]] w fun e w' => (∃ b, e = .returned (.bool b) ∧ (b = true → nn ≤ 30 ∧ remS L 0 nn ≤ 3000)) ∧ Below w.heap.size w w' := by
 have R : RW [] w [some B] [[]] w := by
  refine ⟨fun i C hi => ?_, fun i j C hi hj => ?_, fun i C hi => ?_, rfl, rfl, rfl, Nat.le_refl _, fun _ _ _ => rfl, hw, fun b hb => by cases hb⟩
  ·match i, hi with
   | 0, hi => cases hi; exact ⟨[], rfl, fun i h => absurd h (Nat.not_lt_zero i), fun i h => absurd h (Nat.not_lt_zero i), hr.lies⟩
  ·match i, j, hi, hj with
   | 0, 0, _, _ => rfl
  ·match i, hi with
   | 0, _ => exact .inr (.inr rfl)
 have key : ∃ Post : Value → Prop, Post = fun v => ∃ b, v = .bool b ∧ (b = true → nn ≤ 30 ∧ remS L 0 nn ≤ 3000) := ⟨_, rfl⟩
 obtain ⟨Post, hPost⟩ := key
 have hf : Post (.bool false) := by rw [hPost]; exact ⟨false, rfl, fun h => by cases h⟩
 refine Calls.mono (calls_sxO (tbl := []) (dirty := fun _ => []) (n := nn + 1) (ov := liO ao nn cap L sl) xmixA (f := 14) (fn := fnOf Tryz.prog 14) (c := bodyOf Tryz.prog 14) (by kernel_rfl) (by kernel_rfl) (vargs := [.agg #[.int .i64 t, .slice ao nn cap]]) R rfl rfl (fun i => ?_) (Post := fun v _ => Post v) (li_ov ao nn cap L sl hr) ?_) ?_
 ·match i with
  | 0 => rfl
  | _ + 1 => rfl
 ·refine Eq.mpr (li_start ao nn cap L sl (nn + 1) t _) ⟨rfl, ⟨_, rfl⟩, rfl, rfl, (Bool.and_true _).trans (ptrOk_le hr.ok (by decide)), fun d => ?_⟩
  have hl := li_loop (P := Tryz.prog) (fn := fnOf Tryz.prog 14) (nn := nn) (L := L) (sl := sl) (Post := Post) (fun s n i d pl Q => li_round ao nn cap L sl (nn + 1) s n i d pl Post Q) hn hz hr.ok hf
   (fun e vt m => match e with
    | .exit id' => if id' = 0 then liQ ao nn cap L sl (nn + 1) (retQ Tryz.prog (fnOf Tryz.prog 14) (fun v _ => Post v)) .normal vt m else liQ ao nn cap L sl (nn + 1) (retQ Tryz.prog (fnOf Tryz.prog 14) (fun v _ => Post v)) (.exit id') vt m
    | e => liQ ao nn cap L sl (nn + 1) (retQ Tryz.prog (fnOf Tryz.prog 14) (fun v _ => Post v)) e vt m) [.int .i64 t, .slice ao nn cap] (fun s i d hs hrm => ?_) nn 0 (by omega) 0 d (by omega) (by omega)
  ·have e : retOf Tryz.prog (fnOf Tryz.prog 14) Post (fun e vt m => match e with
    | .exit id' => if id' = 0 then liQ ao nn cap L sl (nn + 1) (retQ Tryz.prog (fnOf Tryz.prog 14) (fun v _ => Post v)) .normal vt m else liQ ao nn cap L sl (nn + 1) (retQ Tryz.prog (fnOf Tryz.prog 14) (fun v _ => Post v)) (.exit id') vt m
    | e => liQ ao nn cap L sl (nn + 1) (retQ Tryz.prog (fnOf Tryz.prog 14) (fun v _ => Post v)) e vt m) = (fun e vt m => match e with
    | .exit id' => if id' = 0 then liQ ao nn cap L sl (nn + 1) (retQ Tryz.prog (fnOf Tryz.prog 14) (fun v _ => Post v)) .normal vt m else liQ ao nn cap L sl (nn + 1) (retQ Tryz.prog (fnOf Tryz.prog 14) (fun v _ => Post v)) (.exit id') vt m
    | e => liQ ao nn cap L sl (nn + 1) (retQ Tryz.prog (fnOf Tryz.prog 14) (fun v _ => Post v)) e vt m) := by
    funext e vt m
    cases e <;> rfl
   rw [e] at hl
   exact hl
  ·refine Eq.mpr (li_end ao nn cap L sl (nn + 1) s nn i t d Post) ⟨rfl, ⟨_, rfl⟩, rfl, ?_⟩
   by_cases h30 : ((nn : Nat) : Int) ≤ 30
   ·rw [decide_eq_true h30]
    by_cases ht : t ≥ 0
    ·rw [decide_eq_true ht]
     show Post _
     rw [hPost]
     exact ⟨_, rfl, fun _ => ⟨by omega, by omega⟩⟩
    ·rw [decide_eq_false ht]
     exact hf
   ·rw [decide_eq_false h30]
    exact hf
 ·rintro e w' ⟨v, bl', m2, rfl, hv, R', _⟩
  rw [hPost] at hv
  obtain ⟨b, rfl, hb⟩ := hv
  exact ⟨⟨b, rfl, hb⟩, R'.os, R'.tape, R'.output, R'.size, fun i hi => R'.block i hi (by simp)⟩
theorem Recs.same {w w' : World} {B : Nat} {ao : Option Addr} {n cap : Nat} {L : Nat → Int × ByteArray} {sl : Value} (h : Recs w B ao n cap L sl) (hb : Below w.heap.size w w') : Recs w' B ao n cap L sl := by
 have e := hb.block B h.lies
 exact ⟨h.rv, h.ok, Nat.lt_of_lt_of_le h.lies hb.size, h.idx, fun i hi => let ⟨o, h1, h2, h3⟩ := h.at_ i hi; ⟨o, h1, by rw [cell_old e]; exact h2, by rw [cell_old e]; exact h3⟩⟩
end Go.Proofs.YtbophanlmkbfeaaGreatDoor
