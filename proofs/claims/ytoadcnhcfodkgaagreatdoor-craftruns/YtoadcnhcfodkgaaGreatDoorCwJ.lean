/-
  What stays so of a craft from step to step, for the seat YtoadcnhcfodkgaaGreatDoor.
-/
import Derived.Test.YtoadcnhcfodkgaaGreatDoorCwG
namespace Go.Proofs.YtoadcnhcfodkgaaGreatDoor
open Go.RowKit

/-- A plan whose counts are numbers, whose mode and faults are in their ranges. -/
structure PlI (q : Pl) : Prop where
  c : I64 q.calm
  g : I64 q.good
  i : I64 q.miss
  l : I64 q.lost
  m0 : 0 ≤ q.mode
  m3 : q.mode ≤ 3
  f0 : 0 ≤ q.faults
  f9 : q.faults ≤ 15
theorem i64_0 : I64 0 := ⟨by decide, by decide⟩
theorem or_all : ∀ n : Fin 16, ∀ x ∈ ([1, 2, 4, 8] : List Int), 0 ≤ bits .or .i64 (n.val : Int) x ∧ bits .or .i64 (n.val : Int) x ≤ 15 := by decide +kernel
theorem or_at {f x : Int} (h0 : 0 ≤ f) (h1 : f ≤ 15) (hx : x ∈ ([1, 2, 4, 8] : List Int)) : 0 ≤ bits .or .i64 f x ∧ bits .or .i64 f x ≤ 15 := by
  obtain ⟨n, rfl⟩ : ∃ n : Nat, f = n := ⟨f.toNat, by omega⟩
  exact or_all ⟨n, by omega⟩ x hx
theorem cnt_i {n : Int} (b : Bool) : I64 (cntW n b) := by
  unfold cntW
  cases b
  · exact i64_0
  · simp only [if_true]
    split
    · exact ⟨by decide, by decide⟩
    · rw [IntKind.wrap_i64]
      exact ⟨by omega, by omega⟩
theorem PlI.go {q : Pl} (h : PlI q) (k : Int) (h0 : 0 ≤ k) (h3 : k ≤ 3) : PlI (goS k q) := ⟨i64_0, i64_0, i64_0, i64_0, h0, h3, h.f0, h.f9⟩
theorem PlI.fail {q : Pl} (h : PlI q) (x : Int) (hx : x ∈ ([1, 2, 4, 8] : List Int)) : PlI (failS x q) := by
  have u := or_at h.f0 h.f9 hx
  exact ⟨i64_0, i64_0, i64_0, i64_0, show (0 : Int) ≤ 1 by decide, show (1 : Int) ≤ 3 by decide, u.1, u.2⟩
theorem PlI.step {q : Pl} (h : PlI q) (s : Sn) : PlI (nextW q s) := by
  unfold nextW nextV
  split
  · exact h.go 3 (by decide) (by decide)
  split
  · unfold safeS; split
    · exact ⟨i64_0, i64_0, i64_0, i64_0, Int.le_refl 0, show (0 : Int) ≤ 3 by decide, Int.le_refl 0, show (0 : Int) ≤ 15 by decide⟩
    · exact h
  split
  · unfold detW; split
    · exact h.go 1 (by decide) (by decide)
    · exact ⟨cnt_i _, h.g, h.i, h.l, h.m0, h.m3, h.f0, h.f9⟩
  split
  · cases s.gap
    · simp only [cond_false]
      unfold coaW
      cases (s.gyro && !s.slow)
      · simp only [cond_false]
        split
        · exact h.go 2 (by decide) (by decide)
        · exact ⟨h.c, cnt_i _, h.i, h.l, h.m0, h.m3, h.f0, h.f9⟩
      · exact h.go 0 (by decide) (by decide)
    · exact h.fail 1 (by decide)
  split
  · cases s.gap
    · simp only [cond_false]
      unfold finW
      cases s.bad
      · simp only [cond_false]
        split
        · exact h.fail 2 (by decide)
        cases (s.pair && s.lit)
        · exact ⟨h.c, h.g, h.i, cnt_i _, h.m0, h.m3, h.f0, h.f9⟩
        · simp only [cond_true]
          split
          · exact h.fail 8 (by decide)
          · exact ⟨h.c, h.g, cnt_i _, cnt_i _, h.m0, h.m3, h.f0, h.f9⟩
      · exact h.fail 4 (by decide)
    · exact h.fail 1 (by decide)
  · exact h.go 3 (by decide) (by decide)
/-! ### The parts of a craft -/
abbrev cPlan (c : Cra) : Tup 6 := c.2.2.2.1
abbrev cDrif (c : Cra) : Dri := c.2.2.2.2.2.2.1
abbrev cGues (c : Cra) : Tup 43 := c.2.2.2.2.2.2.2.1
abbrev cAcks (c : Cra) : Tup 3 := c.2.2.2.2.2.2.2.2
structure AkI (a : Tup 3) : Prop where
  a0 : 0 ≤ a.1
  a1 : a.1 ≤ 255
  e0 : 0 ≤ a.2.1
  e1 : a.2.1 ≤ 255
  r0 : 0 ≤ a.2.2.1
  r1 : a.2.2.1 ≤ 65535
theorem rej_in {n : Int} (h0 : 0 ≤ n) (h1 : n ≤ 65535) : 0 ≤ rejW n ∧ rejW n ≤ 65535 := by
  unfold rejW
  split
  · exact ⟨by decide, by decide⟩
  · rw [IntKind.wrap_i64]
    constructor <;> omega
theorem ord_in (k : Int) (s : ByteArray) : 0 ≤ (ordR k s).1.1 ∧ (ordR k s).1.1 ≤ 255 ∧ 0 ≤ (ordR k s).2 ∧ (ordR k s).2 ≤ 255 := by
  have hb : (0 : Int) ≤ (bt s 0 : Nat) ∧ ((bt s 0 : Nat) : Int) ≤ 255 := by
    have := bt_lt s 0
    omega
  unfold ordR
  split
  · exact ⟨by decide, by decide, by decide, by decide⟩
  split
  · exact ⟨hb.1, hb.2, by dsimp only; decide, by dsimp only; decide⟩
  split
  · exact ⟨hb.1, hb.2, by dsimp only; decide, by dsimp only; decide⟩
  split
  · exact ⟨hb.1, hb.2, by dsimp only; decide, by dsimp only; decide⟩
  split
  · exact ⟨hb.1, hb.2, by dsimp only; decide, by dsimp only; decide⟩
  split
  · exact ⟨hb.1, hb.2, by dsimp only; decide, by dsimp only; decide⟩
  · exact ⟨hb.1, hb.2, by dsimp only; decide, by dsimp only; decide⟩
/-- A plan whose faults are cleared. -/
def clrP (p : Tup 6) : Tup 6 := (p.1, p.2.1, p.2.2.1, p.2.2.2.1, p.2.2.2.2.1, 0, ())
/-- A craft that takes frames. -/
structure Mid (c0 : Cra) (l : ByteArray) (c : Cra) : Prop where
  on : c.1 = c0.1
  tick : c.2.1 = c0.2.1
  left : c.2.2.1 = l
  plan : cPlan c = cPlan c0 ∨ cPlan c = clrP (cPlan c0)
  dri : cDrif c = cDrif c0
  gue : cGues c = cGues c0
  ak : AkI (cAcks c)
theorem Mid.rej {c0 c : Cra} {l : ByteArray} (h : Mid c0 l c) : Mid c0 l (rejC c) :=
  ⟨h.on, h.tick, h.left, h.plan, h.dri, h.gue, ⟨h.ak.a0, h.ak.a1, h.ak.e0, h.ak.e1, (rej_in h.ak.r0 h.ak.r1).1, (rej_in h.ak.r0 h.ak.r1).2⟩⟩
theorem Mid.ack {c0 c : Cra} {l : ByteArray} (h : Mid c0 l c) {q e : Int} (q0 : 0 ≤ q) (q1 : q ≤ 255) (e0 : 0 ≤ e) (e1 : e ≤ 255) : Mid c0 l (ackC c q e) :=
  ⟨h.on, h.tick, h.left, h.plan, h.dri, h.gue, ⟨q0, q1, e0, e1, h.ak.r0, h.ak.r1⟩⟩
theorem Mid.orb {c0 c : Cra} {l : ByteArray} (h : Mid c0 l c) (o : Tup 7) : Mid c0 l (orbC c o) := ⟨h.on, h.tick, h.left, h.plan, h.dri, h.gue, h.ak⟩
theorem Mid.clr {c0 c : Cra} {l : ByteArray} (h : Mid c0 l c) : Mid c0 l (clrC c) := by
  refine ⟨h.on, h.tick, h.left, .inr ?_, h.dri, h.gue, ⟨h.ak.a0, h.ak.a1, h.ak.e0, h.ak.e1, Int.le_refl 0, show (0 : Int) ≤ 65535 by decide⟩⟩
  show clrP (cPlan c) = _
  rcases h.plan with e | e <;> rw [e]
  rfl
/-- An order that is heard. -/
def OrdI (x : Hea) : Prop := x.2.2.2 = 0 ∨ x.2.2.2 = 1 ∨ x.2.2.2 = 2
section
variable {F : Fs}
theorem Mid.sen {c0 c : Cra} {l : ByteArray} (h : Mid c0 l c) (x : Hea) (f : Fra) (t : Int) (ho : OrdI x) : Mid c0 l (senW F c x f t).1 ∧ OrdI (senW F c x f t).2 := by
  unfold senW
  split
  · exact ⟨h.rej, ho⟩
  split
  · exact ⟨h.rej, ho⟩
  split
  · exact ⟨h, ho⟩
  split
  · exact ⟨h, ho⟩
  split
  · exact ⟨h, ho⟩
  · exact ⟨h, ho⟩
theorem Mid.ord {c0 c : Cra} {l : ByteArray} (h : Mid c0 l c) (x : Hea) (f : Fra) (ho : OrdI x) : Mid c0 l (ordC c x (oreadT f)).1 ∧ OrdI (ordC c x (oreadT f)).2 := by
  obtain ⟨q0, q1, e0, e1⟩ := ord_in f.1 f.2
  have ha : Mid c0 l (ackC c (oreadT f).1.1 (oreadT f).2) := h.ack q0 q1 e0 e1
  generalize oreadT f = o at ha ⊢
  unfold ordC
  split
  · exact ⟨ha.rej, ho⟩
  split
  · rename_i e
    exact ⟨ha, .inr (.inl (of_decide_eq_true e))⟩
  split
  · rename_i e
    exact ⟨ha, .inr (.inr (of_decide_eq_true e))⟩
  split
  · exact ⟨ha.orb _, ho⟩
  split
  · exact ⟨ha.clr, ho⟩
  · exact ⟨ha, ho⟩
theorem Mid.hear (hF : FsIs F) {c0 : Cra} {l : ByteArray} (t : Int) (s : Cra × Hea) (f : Fra) (h : Mid c0 l s.1 ∧ OrdI s.2) : Mid c0 l (hearW F t s f).1 ∧ OrdI (hearW F t s f).2 := by
  unfold hearW
  split
  · exact h.1.sen s.2 f t h.2
  split
  · exact h.1.sen s.2 f t h.2
  split
  · exact h.1.sen s.2 f t h.2
  split
  · rw [hF.oread]
    exact h.1.ord s.2 f h.2
  · exact ⟨h.1.rej, h.2⟩
end
theorem Mid.all {F : Fs} (hF : FsIs F) {c0 : Cra} {l : ByteArray} (t : Int) : ∀ (fs : List Fra) (s : Cra × Hea), Mid c0 l s.1 ∧ OrdI s.2 → Mid c0 l (fs.foldl (hearW F t) s).1 ∧ OrdI (fs.foldl (hearW F t) s).2
  | [], _, h => h
  | f :: fs, s, h => Mid.all hF t fs (hearW F t s f) (Mid.hear hF t s f h)
theorem take_mid {F : Fs} (hF : FsIs F) (c : Cra) (ha : AkI (cAcks c)) (t : Int) (b : ByteArray) : Mid c (restOf (c.2.2.1 ++ b).data.toList) (takeW F c t b).1 ∧ OrdI (takeW F c t b).2 := by
  unfold takeW
  refine Mid.all hF t _ _ ⟨?_, .inl rfl⟩
  have h : Mid c (restOf (c.2.2.1 ++ b).data.toList) (leftC c (restOf (c.2.2.1 ++ b).data.toList)) := ⟨rfl, rfl, rfl, .inl rfl, rfl, rfl, ha⟩
  unfold begW
  split
  · exact h.rej
  · exact h
theorem scanU_rest : ∀ (f : Nat) (s : List UInt8), (scanU f s).2.1.length ≤ s.length
  | 0, _ => Nat.le_refl _
  | f + 1, s => by
    unfold scanU
    split
    · exact Nat.le_refl _
    · have := scanU_rest f (s.drop 1)
      rw [List.length_drop] at this
      dsimp only
      omega
    · rename_i n _
      have := scanU_rest f (s.drop (n + 5))
      rw [List.length_drop] at this
      dsimp only
      omega
theorem rest_size (L : List UInt8) : (restOf L).size ≤ L.length := scanU_rest _ L
end Go.Proofs.YtoadcnhcfodkgaaGreatDoor
