/-
  Plans, what is decided in a step, and the plan behind it, in plain terms, for the seat YtoadcnhcfodkgaaGreatDoor. No function's Go text in sight.
-/
import Derived.Test.YtoadcnhcfodkgaaGreatDoorMdLeads
namespace Go.Proofs.YtoadcnhcfodkgaaGreatDoor
open Go.RowKit

/-- A plan. -/
structure Pl where
  mode : Int
  calm : Int
  good : Int
  miss : Int
  lost : Int
  faults : Int
/-- What is decided in a step. -/
structure Sn where
  gap : Bool
  gyro : Bool
  slow : Bool
  pair : Bool
  lit : Bool
  bad : Bool
  pass : Bool
  order : Int
def plV (p : Pl) : Value := .agg #[.int .i64 p.mode, .int .i64 p.calm, .int .i64 p.good, .int .i64 p.miss, .int .i64 p.lost, .int .i64 p.faults]
def snV (s : Sn) : Value := .agg #[.bool s.gap, .bool s.gyro, .bool s.slow, .bool s.pair, .bool s.lit, .bool s.bad, .bool s.pass, .int .i64 s.order]
def cntS (n : Int) (it : Bool) : Int := bif it then (if 100 ≤ n then 100 else n + 1) else 0
def goS (k : Int) (p : Pl) : Pl := ⟨k, 0, 0, 0, 0, p.faults⟩
def failS (x : Int) (p : Pl) : Pl := ⟨1, 0, 0, 0, 0, bits .or .i64 p.faults x⟩
def safeS (p : Pl) (s : Sn) : Pl := if s.order = 2 then ⟨0, 0, 0, 0, 0, 0⟩ else p
def detS (p : Pl) (s : Sn) : Pl := if 3 ≤ cntS p.calm (s.gyro && s.slow) then goS 1 p else ⟨p.mode, cntS p.calm (s.gyro && s.slow), p.good, p.miss, p.lost, p.faults⟩
def coaS (p : Pl) (s : Sn) : Pl := bif s.gyro && !s.slow then goS 0 p else if 2 ≤ cntS p.good (s.gyro && s.pair && s.lit) then goS 2 p else ⟨p.mode, p.calm, cntS p.good (s.gyro && s.pair && s.lit), p.miss, p.lost, p.faults⟩
def finS (p : Pl) (s : Sn) : Pl := bif s.bad then failS 4 p else if 3 ≤ cntS p.lost (!s.gyro) then failS 2 p else
  bif s.pair && s.lit then (if 5 ≤ cntS p.miss (!s.pass) then failS 8 p else ⟨p.mode, p.calm, p.good, cntS p.miss (!s.pass), cntS p.lost (!s.gyro), p.faults⟩) else ⟨p.mode, p.calm, p.good, p.miss, cntS p.lost (!s.gyro), p.faults⟩
def nextS (p : Pl) (s : Sn) : Pl := if s.order = 1 then goS 3 p else if p.mode = 3 then safeS p s else if p.mode = 0 then detS p s else
  if p.mode = 1 then (bif s.gap then failS 1 p else coaS p s) else if p.mode = 2 then (bif s.gap then failS 1 p else finS p s) else goS 3 p
theorem Pl.ext {a b c d e f a' b' c' d' e' f' : Int} (h0 : a = a') (h1 : b = b') (h2 : c = c') (h3 : d = d') (h4 : e = e') (h5 : f = f') : (⟨a, b, c, d, e, f⟩ : Pl) = ⟨a', b', c', d', e', f'⟩ := by subst h0 h1 h2 h3 h4 h5; rfl
end Go.Proofs.YtoadcnhcfodkgaaGreatDoor
