/-
  Plans for the symbolic run, and what mode's functions answer with the wraps of their counts, for the seat YtoadcnhcfodkgaaGreatDoor. No Go text in sight.
-/
import Derived.Test.YtoadcnhcfodkgaaGreatDoorSxK
import Derived.Test.YtoadcnhcfodkgaaGreatDoorMdSpec
namespace Go.Proofs.YtoadcnhcfodkgaaGreatDoor
open Go.RowKit

def cPl : Dc Pl where
  enc p := plV p
  dec v := match v with
    | .agg ⟨[.int .i64 a, .int .i64 b, .int .i64 c, .int .i64 d, .int .i64 e, .int .i64 f]⟩ => some ⟨a, b, c, d, e, f⟩
    | _ => none
  law v x h := by
    split at h
    · cases h; rfl
    · cases h
  np _ := rfl
def cSn : Dc Sn where
  enc s := snV s
  dec v := match v with
    | .agg ⟨[.bool a, .bool b, .bool c, .bool d, .bool e, .bool f, .bool g, .int .i64 o]⟩ => some ⟨a, b, c, d, e, f, g, o⟩
    | _ => none
  law v x h := by
    split at h
    · cases h; rfl
    · cases h
  np _ := rfl
/-- A fault and a plan from whose mode it leads somewhere. -/
abbrev Fp := { q : Int × Pl // decide (ldF true true true true true q.2.mode q.1 = 1) = true }
def lFp : Dl Fp where
  enc q := [.int .i64 q.1.1, plV q.1.2]
  dec l := match l with
    | [.int .i64 x, .agg ⟨[.int .i64 a, .int .i64 b, .int .i64 c, .int .i64 d, .int .i64 e, .int .i64 f]⟩] => if h : decide (ldF true true true true true a x = 1) = true then some ⟨(x, ⟨a, b, c, d, e, f⟩), h⟩ else none
    | _ => none
  law v x h := by
    split at h
    · split at h
      · cases h; rfl
      · cases h
    · cases h
  np x v hv := by
    simp only [List.mem_cons, List.not_mem_nil, or_false] at hv
    rcases hv with rfl | rfl <;> rfl
/-- A plan in mode 2, by what else it is. -/
def cP2 : Dc { p : Pl // decide (p.mode = 2) = true } where
  enc p := plV p.1
  dec v := match v with
    | .agg ⟨[.int .i64 a, .int .i64 b, .int .i64 c, .int .i64 d, .int .i64 e, .int .i64 f]⟩ => if h : decide (a = 2) = true then some ⟨⟨a, b, c, d, e, f⟩, h⟩ else none
    | _ => none
  law v x h := by
    split at h
    · split at h
      · cases h; rfl
      · cases h
    · cases h
  np _ := rfl
def cntW (n : Int) (it : Bool) : Int := if it then if 100 ≤ n then 100 else IntKind.i64.wrap (n + 1) else 0
def detW (p : Pl) (s : Sn) : Pl := if 3 ≤ cntW p.calm (s.gyro && s.slow) then goS 1 p else ⟨p.mode, cntW p.calm (s.gyro && s.slow), p.good, p.miss, p.lost, p.faults⟩
def coaW (p : Pl) (s : Sn) : Pl := bif s.gyro && !s.slow then goS 0 p else if 2 ≤ cntW p.good (s.gyro && s.pair && s.lit) then goS 2 p else ⟨p.mode, p.calm, cntW p.good (s.gyro && s.pair && s.lit), p.miss, p.lost, p.faults⟩
def finW (p : Pl) (s : Sn) : Pl := bif s.bad then failS 4 p else if 3 ≤ cntW p.lost (!s.gyro) then failS 2 p else
  bif s.pair && s.lit then (if 5 ≤ cntW p.miss (!s.pass) then failS 8 p else ⟨p.mode, p.calm, p.good, cntW p.miss (!s.pass), cntW p.lost (!s.gyro), p.faults⟩) else ⟨p.mode, p.calm, p.good, p.miss, cntW p.lost (!s.gyro), p.faults⟩
def nextV (p : Pl) (s : Sn) : Pl := if p.mode = 3 then safeS p s else if p.mode = 0 then detW p s else
  if p.mode = 1 then (bif s.gap then failS 1 p else coaW p s) else if p.mode = 2 then (bif s.gap then failS 1 p else finW p s) else goS 3 p
def nextW (p : Pl) (s : Sn) : Pl := if s.order = 1 then goS 3 p else nextV p s
theorem cntW_f (n : Int) : cntW n false = 0 := rfl
theorem if_3 {α : Type} {A B : α} : (if (3 : Int) ≤ 0 then A else B) = B := if_neg (by decide)
theorem cntW_eq {n : Int} (h : I64 n) (it : Bool) : cntW n it = cntS n it := by
  unfold cntW cntS
  obtain ⟨h0, h1⟩ := h
  cases it
  · rfl
  · simp only [if_true, cond_true]
    by_cases c : 100 ≤ n
    · rw [if_pos c, if_pos c]
    · rw [if_neg c, if_neg c, IntKind.wrap_i64]; omega
theorem nextW_eq {p : Pl} (s : Sn) (h1 : I64 p.calm) (h2 : I64 p.good) (h3 : I64 p.miss) (h4 : I64 p.lost) : nextW p s = nextS p s := by
  unfold nextW nextV nextS detW detS coaW coaS finW finS
  rw [cntW_eq h1, cntW_eq h2, cntW_eq h3, cntW_eq h4]
end Go.Proofs.YtoadcnhcfodkgaaGreatDoor
