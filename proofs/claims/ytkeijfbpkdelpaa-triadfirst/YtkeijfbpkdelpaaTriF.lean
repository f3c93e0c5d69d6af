/-
  Frames of two directions, and the matrix of two frames, for the seat Ytkeijfbpkdelpaa. No Go text in sight.
-/
import Derived.Test.YtkeijfbpkdelpaaTriN
namespace Go.Proofs.Ytkeijfbpkdelpaa
open Go.RowKit

/-- Three directions, nearly 1 long and upright to one another. -/
structure Fr (u0 u1 u2 v0 v1 v2 w0 w1 w2 : Int) : Prop where
  u0' : Ab u0 1099511627776
  u1' : Ab u1 1099511627776
  u2' : Ab u2 1099511627776
  v0' : Ab v0 1099511627776
  v1' : Ab v1 1099511627776
  v2' : Ab v2 1099511627776
  w0' : Ab w0 1099511627840
  w1' : Ab w1 1099511627840
  w2' : Ab w2 1099511627840
  uu : Ab (u0 * u0 + u1 * u1 + u2 * u2 - 1208925819614629174706176) 6597069766656
  vv : Ab (v0 * v0 + v1 * v1 + v2 * v2 - 1208925819614629174706176) 16492674416640
  uv : Ab (u0 * v0 + u1 * v1 + u2 * v2) 20890720927744
  o0 : Ab (1099511627776 * w0 - (u1 * v2 - u2 * v1)) 1099511627776
  o1 : Ab (1099511627776 * w1 - (u2 * v0 - u0 * v2)) 1099511627776
  o2 : Ab (1099511627776 * w2 - (u0 * v1 - u1 * v0)) 1099511627776
theorem Fr.next {u0 u1 u2 v0 v1 v2 w0 w1 w2 : Int} (F : Fr u0 u1 u2 v0 v1 v2 w0 w1 w2) : Fr u1 u2 u0 v1 v2 v0 w1 w2 w0 :=
  ⟨F.u1', F.u2', F.u0', F.v1', F.v2', F.v0', F.w1', F.w2', F.w0', by have := F.uu; rw [show u1 * u1 + u2 * u2 + u0 * u0 = u0 * u0 + u1 * u1 + u2 * u2 by omega]; exact this, by have := F.vv; rw [show v1 * v1 + v2 * v2 + v0 * v0 = v0 * v0 + v1 * v1 + v2 * v2 by omega]; exact this,
    by have := F.uv; rw [show u1 * v1 + u2 * v2 + u0 * v0 = u0 * v0 + u1 * v1 + u2 * v2 by omega]; exact this, F.o1, F.o2, F.o0⟩
theorem ww_near {u0 u1 u2 v0 v1 v2 w0 w1 w2 : Int} (a0 : Ab u0 1099511627776) (a1 : Ab u1 1099511627776) (a2 : Ab u2 1099511627776) (r0 : Ab v0 1099511627776) (r1 : Ab v1 1099511627776) (r2 : Ab v2 1099511627776) (uu : Ab (u0 * u0 + u1 * u1 + u2 * u2 - 1208925819614629174706176) 6597069766656) (vv : Ab (v0 * v0 + v1 * v1 + v2 * v2 - 1208925819614629174706176) 16492674416640)
    (uv : Ab (u0 * v0 + u1 * v1 + u2 * v2) 20890720927744) (o0 : Ab (1099511627776 * w0 - (u1 * v2 - u2 * v1)) 1099511627776) (o1 : Ab (1099511627776 * w1 - (u2 * v0 - u0 * v2)) 1099511627776) (o2 : Ab (1099511627776 * w2 - (u0 * v1 - u1 * v0)) 1099511627776) : Ab (w0 * w0 + w1 * w1 + w2 * w2 - 1208925819614629174706176) 38482906972160 := by
  have id : 1208925819614629174706176 * (w0 * w0 + w1 * w1 + w2 * w2 - 1208925819614629174706176) =
      1208925819614629174706176 * ((u0 * u0 + u1 * u1 + u2 * u2 - 1208925819614629174706176) + (v0 * v0 + v1 * v1 + v2 * v2 - 1208925819614629174706176)) + (u0 * u0 + u1 * u1 + u2 * u2 - 1208925819614629174706176) * (v0 * v0 + v1 * v1 + v2 * v2 - 1208925819614629174706176) - (u0 * v0 + u1 * v1 + u2 * v2) * (u0 * v0 + u1 * v1 + u2 * v2)
      + 2 * ((u1 * v2 - u2 * v1) * (1099511627776 * w0 - (u1 * v2 - u2 * v1)) + (u2 * v0 - u0 * v2) * (1099511627776 * w1 - (u2 * v0 - u0 * v2)) + (u0 * v1 - u1 * v0) * (1099511627776 * w2 - (u0 * v1 - u1 * v0)))
      + ((1099511627776 * w0 - (u1 * v2 - u2 * v1)) * (1099511627776 * w0 - (u1 * v2 - u2 * v1)) + (1099511627776 * w1 - (u2 * v0 - u0 * v2)) * (1099511627776 * w1 - (u2 * v0 - u0 * v2)) + (1099511627776 * w2 - (u0 * v1 - u1 * v0)) * (1099511627776 * w2 - (u0 * v1 - u1 * v0))) := by grind
  have b := ((((Ab.one80.mul (uu.add vv)).add (uu.mul vv)).sub (uv.mul uv)).add (Ab.two.mul (((((a1.mul r2).sub (a2.mul r1)).mul o0).add (((a2.mul r0).sub (a0.mul r2)).mul o1)).add (((a0.mul r1).sub (a1.mul r0)).mul o2)))).add (((o0.mul o0).add (o1.mul o1)).add (o2.mul o2))
  rw [← id] at b
  have := b.lo; have := b.hi
  constructor <;> omega
theorem fr_ww {u0 u1 u2 v0 v1 v2 w0 w1 w2 : Int} (F : Fr u0 u1 u2 v0 v1 v2 w0 w1 w2) : Ab (w0 * w0 + w1 * w1 + w2 * w2 - 1208925819614629174706176) 38482906972160 := ww_near F.u0' F.u1' F.u2' F.v0' F.v1' F.v2' F.uu F.vv F.uv F.o0 F.o1 F.o2
theorem fr_uw {u0 u1 u2 v0 v1 v2 w0 w1 w2 : Int} (F : Fr u0 u1 u2 v0 v1 v2 w0 w1 w2) : Ab (u0 * w0 + u1 * w1 + u2 * w2) 3298534883328 := by
  have id : 1099511627776 * (u0 * w0 + u1 * w1 + u2 * w2) = u0 * (1099511627776 * w0 - (u1 * v2 - u2 * v1)) + u1 * (1099511627776 * w1 - (u2 * v0 - u0 * v2)) + u2 * (1099511627776 * w2 - (u0 * v1 - u1 * v0)) := by grind
  have b := ((F.u0'.mul F.o0).add (F.u1'.mul F.o1)).add (F.u2'.mul F.o2)
  rw [← id] at b
  have := b.lo; have := b.hi
  constructor <;> omega
theorem fr_vw {u0 u1 u2 v0 v1 v2 w0 w1 w2 : Int} (F : Fr u0 u1 u2 v0 v1 v2 w0 w1 w2) : Ab (v0 * w0 + v1 * w1 + v2 * w2) 3298534883328 := by
  have id : 1099511627776 * (v0 * w0 + v1 * w1 + v2 * w2) = v0 * (1099511627776 * w0 - (u1 * v2 - u2 * v1)) + v1 * (1099511627776 * w1 - (u2 * v0 - u0 * v2)) + v2 * (1099511627776 * w2 - (u0 * v1 - u1 * v0)) := by grind
  have b := ((F.v0'.mul F.o0).add (F.v1'.mul F.o1)).add (F.v2'.mul F.o2)
  rw [← id] at b
  have := b.lo; have := b.hi
  constructor <;> omega
/-- Rows of a frame are 1 long ... -/
theorem fr_row {u0 u1 u2 v0 v1 v2 w0 w1 w2 : Int} (F : Fr u0 u1 u2 v0 v1 v2 w0 w1 w2) : Ab (u0 * u0 + v0 * v0 + w0 * w0 - 1208925819614629174706176) 93458488360960 := by
  have id : 1208925819614629174706176 * (u0 * u0 + v0 * v0 + w0 * w0 - 1208925819614629174706176) =
      1208925819614629174706176 * ((u0 * u0 + u1 * u1 + u2 * u2 - 1208925819614629174706176) + (v0 * v0 + v1 * v1 + v2 * v2 - 1208925819614629174706176)) + (u0 * u0 + u1 * u1 + u2 * u2 - 1208925819614629174706176) * (v0 * v0 + v1 * v1 + v2 * v2 - 1208925819614629174706176) - (u0 * v0 + u1 * v1 + u2 * v2) * (u0 * v0 + u1 * v1 + u2 * v2)
      - (v0 * v0 + v1 * v1 + v2 * v2 - 1208925819614629174706176) * (u0 * u0) - (u0 * u0 + u1 * u1 + u2 * u2 - 1208925819614629174706176) * (v0 * v0) + 2 * ((u0 * v0 + u1 * v1 + u2 * v2) * (u0 * v0)) + 2 * ((u1 * v2 - u2 * v1) * (1099511627776 * w0 - (u1 * v2 - u2 * v1))) + (1099511627776 * w0 - (u1 * v2 - u2 * v1)) * (1099511627776 * w0 - (u1 * v2 - u2 * v1)) := by grind
  have b := (((((((Ab.one80.mul (F.uu.add F.vv)).add (F.uu.mul F.vv)).sub (F.uv.mul F.uv)).sub (F.vv.mul (F.u0'.mul F.u0'))).sub (F.uu.mul (F.v0'.mul F.v0'))).add (Ab.two.mul (F.uv.mul (F.u0'.mul F.v0')))).add (Ab.two.mul (((F.u1'.mul F.v2').sub (F.u2'.mul F.v1')).mul F.o0))).add (F.o0.mul F.o0)
  rw [← id] at b
  have := b.lo; have := b.hi
  constructor <;> omega
/-- ... and upright to one another. -/
theorem fr_rows {u0 u1 u2 v0 v1 v2 w0 w1 w2 : Int} (F : Fr u0 u1 u2 v0 v1 v2 w0 w1 w2) : Ab (u0 * u1 + v0 * v1 + w0 * w1) 93458488360960 := by
  have id : 1208925819614629174706176 * (u0 * u1 + v0 * v1 + w0 * w1) =
      (u0 * v0 + u1 * v1 + u2 * v2) * (u0 * v1 + v0 * u1) - (v0 * v0 + v1 * v1 + v2 * v2 - 1208925819614629174706176) * (u0 * u1) - (u0 * u0 + u1 * u1 + u2 * u2 - 1208925819614629174706176) * (v0 * v1)
      + (u1 * v2 - u2 * v1) * (1099511627776 * w1 - (u2 * v0 - u0 * v2)) + (u2 * v0 - u0 * v2) * (1099511627776 * w0 - (u1 * v2 - u2 * v1)) + (1099511627776 * w0 - (u1 * v2 - u2 * v1)) * (1099511627776 * w1 - (u2 * v0 - u0 * v2)) := by grind
  have b := (((((F.uv.mul ((F.u0'.mul F.v1').add (F.v0'.mul F.u1'))).sub (F.vv.mul (F.u0'.mul F.u1'))).sub (F.uu.mul (F.v0'.mul F.v1'))).add (((F.u1'.mul F.v2').sub (F.u2'.mul F.v1')).mul F.o1)).add (((F.u2'.mul F.v0').sub (F.u0'.mul F.v2')).mul F.o0)).add (F.o0.mul F.o1)
  rw [← id] at b
  have := b.lo; have := b.hi
  constructor <;> omega
/-- The cofactors of a frame. -/
theorem fr_cof {u0 u1 u2 v0 v1 v2 w0 w1 w2 : Int} (F : Fr u0 u1 u2 v0 v1 v2 w0 w1 w2) :
    Ab (1099511627776 * (v1 * w2 - v2 * w1) - 1208925819614629174706176 * u0) 43521329506126650289422336 ∧ Ab (1099511627776 * (w1 * u2 - w2 * u1) - 1208925819614629174706176 * v0) 32640997129594987717066752 ∧ Ab (1099511627776 * (u1 * v2 - u2 * v1) - 1208925819614629174706176 * w0) 1208925819614629174706176 := by
  have i1 : 1099511627776 * (v1 * w2 - v2 * w1) - 1208925819614629174706176 * u0 = (v0 * v0 + v1 * v1 + v2 * v2 - 1208925819614629174706176) * u0 - (u0 * v0 + u1 * v1 + u2 * v2) * v0 + (v1 * (1099511627776 * w2 - (u0 * v1 - u1 * v0)) - v2 * (1099511627776 * w1 - (u2 * v0 - u0 * v2))) := by grind
  have i2 : 1099511627776 * (w1 * u2 - w2 * u1) - 1208925819614629174706176 * v0 = (u0 * u0 + u1 * u1 + u2 * u2 - 1208925819614629174706176) * v0 - (u0 * v0 + u1 * v1 + u2 * v2) * u0 + (u2 * (1099511627776 * w1 - (u2 * v0 - u0 * v2)) - u1 * (1099511627776 * w2 - (u0 * v1 - u1 * v0))) := by grind
  have i3 : 1099511627776 * (u1 * v2 - u2 * v1) - 1208925819614629174706176 * w0 = -(1099511627776 * (1099511627776 * w0 - (u1 * v2 - u2 * v1))) := by grind
  rw [i1, i2, i3]
  exact ⟨(((F.vv.mul F.u0').sub (F.uv.mul F.v0')).add ((F.v1'.mul F.o2).sub (F.v2'.mul F.o1))).le (by decide), (((F.uu.mul F.v0').sub (F.uv.mul F.u0')).add ((F.u2'.mul F.o1).sub (F.u1'.mul F.o2))).le (by decide), (Ab.one40.mul F.o0).neg.le (by decide)⟩
/-- A place of the matrix of two frames. -/
abbrev Pl (m x y z u v w : Int) : Prop := Ab (2 * (1099511627776 * m - (x * u + y * v + z * w))) 3298534883328
theorem pl_bd {m x y z u v w : Int} (h : Pl m x y z u v w) (hx : Ab x 1099511627776) (hy : Ab y 1099511627776) (hz : Ab z 1099511627840) (hu : Ab u 1099511627776) (hv : Ab v 1099511627776) (hw : Ab w 1099511627840) :
    Ab (x * u + y * v + z * w) 3626777459000000000000000 ∧ Ab (1099511627776 * m) 3626777459010000000000000 := by
  have b : Ab (x * u + y * v + z * w) 3626777459000000000000000 := (((hx.mul hu).add (hy.mul hv)).add (hz.mul hw)).le (by decide)
  refine ⟨b, ?_⟩
  have := b.lo; have := b.hi; have := h.lo; have := h.hi
  constructor <;> omega
/-- Columns (and rows) of the matrix of two frames. -/
theorem col_near {x0 x1 x2 y0 y1 y2 z0 z1 z2 u v w u' v' w' a0 a1 a2 b0 b1 b2 d : Int} (F : Fr x0 x1 x2 y0 y1 y2 z0 z1 z2)
    (hu : Ab u 1099511627776) (hv : Ab v 1099511627776) (hw : Ab w 1099511627840) (hu' : Ab u' 1099511627776) (hv' : Ab v' 1099511627776) (hw' : Ab w' 1099511627840) (R : Ab (u * u' + v * v' + w * w' - d) 93458488360960)
    (p0 : Pl a0 x0 y0 z0 u v w) (p1 : Pl a1 x1 y1 z1 u v w) (p2 : Pl a2 x2 y2 z2 u v w) (q0 : Pl b0 x0 y0 z0 u' v' w') (q1 : Pl b1 x1 y1 z1 u' v' w') (q2 : Pl b2 x2 y2 z2 u' v' w') :
    Ab (a0 * b0 + a1 * b1 + a2 * b2 - d) 252887674388480 := by
  have id : 2417851639229258349412352 * (a0 * b0 + a1 * b1 + a2 * b2 - d) = 2417851639229258349412352 * (u * u' + v * v' + w * w' - d)
      + 2 * ((x0 * x0 + x1 * x1 + x2 * x2 - 1208925819614629174706176) * (u * u') + (y0 * y0 + y1 * y1 + y2 * y2 - 1208925819614629174706176) * (v * v') + (z0 * z0 + z1 * z1 + z2 * z2 - 1208925819614629174706176) * (w * w')
        + (x0 * y0 + x1 * y1 + x2 * y2) * (u * v' + v * u') + (x0 * z0 + x1 * z1 + x2 * z2) * (u * w' + w * u') + (y0 * z0 + y1 * z1 + y2 * z2) * (v * w' + w * v'))
      + ((x0 * u + y0 * v + z0 * w) * (2 * (1099511627776 * b0 - (x0 * u' + y0 * v' + z0 * w'))) + 2 * (1099511627776 * a0 - (x0 * u + y0 * v + z0 * w)) * (1099511627776 * b0))
      + ((x1 * u + y1 * v + z1 * w) * (2 * (1099511627776 * b1 - (x1 * u' + y1 * v' + z1 * w'))) + 2 * (1099511627776 * a1 - (x1 * u + y1 * v + z1 * w)) * (1099511627776 * b1))
      + ((x2 * u + y2 * v + z2 * w) * (2 * (1099511627776 * b2 - (x2 * u' + y2 * v' + z2 * w'))) + 2 * (1099511627776 * a2 - (x2 * u + y2 * v + z2 * w)) * (1099511627776 * b2)) := by grind
  have g0 := (pl_bd p0 F.u0' F.v0' F.w0' hu hv hw).1
  have g1 := (pl_bd p1 F.u1' F.v1' F.w1' hu hv hw).1
  have g2 := (pl_bd p2 F.u2' F.v2' F.w2' hu hv hw).1
  have k0 := (pl_bd q0 F.u0' F.v0' F.w0' hu' hv' hw').2
  have k1 := (pl_bd q1 F.u1' F.v1' F.w1' hu' hv' hw').2
  have k2 := (pl_bd q2 F.u2' F.v2' F.w2' hu' hv' hw').2
  have b := ((((⟨by decide, by decide⟩ : Ab 2417851639229258349412352 2417851639229258349412352).mul R).add (Ab.two.mul ((((((F.uu.mul (hu.mul hu')).add (F.vv.mul (hv.mul hv'))).add ((fr_ww F).mul (hw.mul hw'))).add (F.uv.mul ((hu.mul hv').add (hv.mul hu')))).add ((fr_uw F).mul ((hu.mul hw').add (hw.mul hu')))).add ((fr_vw F).mul ((hv.mul hw').add (hw.mul hv')))))).add ((g0.mul q0).add (p0.mul k0))).add ((g1.mul q1).add (p1.mul k1)) |>.add ((g2.mul q2).add (p2.mul k2))
  rw [← id] at b
  have := b.lo; have := b.hi
  constructor <;> omega
/-- Cofactors of the matrix of two frames. -/
theorem cof_near {x0 x1 x2 y0 y1 y2 z0 z1 z2 u0 u1 u2 v0 v1 v2 w0 w1 w2 m00 m11 m12 m21 m22 : Int} (F : Fr x0 x1 x2 y0 y1 y2 z0 z1 z2) (G : Fr u0 u1 u2 v0 v1 v2 w0 w1 w2)
    (p00 : Pl m00 x0 y0 z0 u0 v0 w0) (p11 : Pl m11 x1 y1 z1 u1 v1 w1) (p12 : Pl m12 x1 y1 z1 u2 v2 w2) (p21 : Pl m21 x2 y2 z2 u1 v1 w1) (p22 : Pl m22 x2 y2 z2 u2 v2 w2) :
    Ab (m11 * m22 - m12 * m21 - 1099511627776 * m00) 175921860444160 := by
  obtain ⟨f1, f2, f3⟩ := fr_cof F
  obtain ⟨h1, h2, h3⟩ := fr_cof G
  have id : 2923003274661805836407369665432566039311865085952 * (m11 * m22 - m12 * m21 - 1099511627776 * m00) =
      2 * (1208925819614629174706176 * x0 * (1099511627776 * (v1 * w2 - v2 * w1) - 1208925819614629174706176 * u0) + (1099511627776 * (y1 * z2 - y2 * z1) - 1208925819614629174706176 * x0) * (1208925819614629174706176 * u0 + (1099511627776 * (v1 * w2 - v2 * w1) - 1208925819614629174706176 * u0))
        + (1208925819614629174706176 * y0 * (1099511627776 * (w1 * u2 - w2 * u1) - 1208925819614629174706176 * v0) + (1099511627776 * (z1 * x2 - z2 * x1) - 1208925819614629174706176 * y0) * (1208925819614629174706176 * v0 + (1099511627776 * (w1 * u2 - w2 * u1) - 1208925819614629174706176 * v0)))
        + (1208925819614629174706176 * z0 * (1099511627776 * (u1 * v2 - u2 * v1) - 1208925819614629174706176 * w0) + (1099511627776 * (x1 * y2 - x2 * y1) - 1208925819614629174706176 * z0) * (1208925819614629174706176 * w0 + (1099511627776 * (u1 * v2 - u2 * v1) - 1208925819614629174706176 * w0))))
      + 1208925819614629174706176 * ((x1 * u1 + y1 * v1 + z1 * w1) * (2 * (1099511627776 * m22 - (x2 * u2 + y2 * v2 + z2 * w2))) + 2 * (1099511627776 * m11 - (x1 * u1 + y1 * v1 + z1 * w1)) * (1099511627776 * m22)
        - ((x1 * u2 + y1 * v2 + z1 * w2) * (2 * (1099511627776 * m21 - (x2 * u1 + y2 * v1 + z2 * w1))) + 2 * (1099511627776 * m12 - (x1 * u2 + y1 * v2 + z1 * w2)) * (1099511627776 * m21)))
      - 1461501637330902918203684832716283019655932542976 * (2 * (1099511627776 * m00 - (x0 * u0 + y0 * v0 + z0 * w0))) := by grind
  have g11 := pl_bd p11 F.u1' F.v1' F.w1' G.u1' G.v1' G.w1'
  have g22 := pl_bd p22 F.u2' F.v2' F.w2' G.u2' G.v2' G.w2'
  have g12 := pl_bd p12 F.u1' F.v1' F.w1' G.u2' G.v2' G.w2'
  have g21 := pl_bd p21 F.u2' F.v2' F.w2' G.u1' G.v1' G.w1'
  have O := Ab.one80
  have b := ((Ab.two.mul (((((O.mul F.u0').mul h1).add (f1.mul ((O.mul G.u0').add h1))).add (((O.mul F.v0').mul h2).add (f2.mul ((O.mul G.v0').add h2)))).add (((O.mul F.w0').mul h3).add (f3.mul ((O.mul G.w0').add h3))))).add (O.mul (((g11.1.mul p22).add (p11.mul g22.2)).sub ((g12.1.mul p21).add (p12.mul g21.2))))).sub ((⟨by decide, by decide⟩ : Ab 1461501637330902918203684832716283019655932542976 1461501637330902918203684832716283019655932542976).mul p00)
  rw [← id] at b
  have := b.lo; have := b.hi
  constructor <;> omega
end Go.Proofs.Ytkeijfbpkdelpaa
