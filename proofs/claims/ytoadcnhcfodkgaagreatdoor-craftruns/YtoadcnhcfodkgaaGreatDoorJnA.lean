/-
  The lower functions of both crafts, joined: what is left is handed in, for the seat YtoadcnhcfodkgaaGreatDoor.
-/
import Derived.Test.YtoadcnhcfodkgaaGreatDoorAgC
import Derived.Test.YtoadcnhcfodkgaaGreatDoorBdF
import Derived.Test.YtoadcnhcfodkgaaGreatDoorDsG
namespace Go.Proofs.YtoadcnhcfodkgaaGreatDoor
open Go.RowKit

/-- The functions that aren't joined here: one for both sides, and two of the sky that agree. -/
structure Rest2 (right : Int → Bool) (next : Tup 6 × See → Tup 6) (counts : Tup 4 × Tup 3 → Tup 4 × Tup 3) (write : Tel → Fra × Bool) (wrap : Fra → ByteArray × Bool) (read : Fra → Tup 5 × Bool) (fresh : Tup 5 × Int → Bool) (oread oreadD : Fra → Tup 9 × Int) : Prop where
  right : PureOk Tryz.prog 9 (lone' cI) right cB ∧ PureOk Tryz.prog 17 (lone' cI) right cB
  next : PureOk Tryz.prog 53 (then' (cT 6) (lone' cSee)) next (cT 6) ∧ PureOk Tryz.prog 29 (then' (cT 6) (lone' cSee)) next (cT 6)
  counts : PureOk Tryz.prog 55 (then' (cT 4) (lone' (cT 3))) counts (two' (cT 4) (cT 3)) ∧ PureOk Tryz.prog 33 (then' (cT 4) (lone' (cT 3))) counts (two' (cT 4) (cT 3))
  write : PureOk Tryz.prog 57 (lone' (cT 13)) write (two' cFra cB) ∧ PureOk Tryz.prog 34 (lone' (cT 13)) write (two' cFra cB)
  wrap : PureOk Tryz.prog 58 (lone' cFra) wrap (two' cS cB) ∧ PureOk Tryz.prog 35 (lone' cFra) wrap (two' cS cB)
  read : PureOk Tryz.prog 114 (lone' cFra) read (two' (cT 5) cB) ∧ PureOk Tryz.prog 61 (lone' cFra) read (two' (cT 5) cB)
  fresh : PureOk Tryz.prog 115 (then' (cT 5) (lone' cI)) fresh cB ∧ PureOk Tryz.prog 62 (then' (cT 5) (lone' cI)) fresh cB
  oread : PureOk Tryz.prog 116 (lone' cFra) oread (two' (cT 9) cI) ∧ PureOk Tryz.prog 63 (lone' cFra) oreadD (two' (cT 9) cI) ∧ ∀ f, f.1 = 16 → oreadD f = oread f
  sky : ∃ f g, FlowOk Tryz.prog 44 (then' (cT 3) (lone' cI)) f (cT 3) ∧ FlowOk Tryz.prog 22 (then' (cT 3) (lone' cI)) g (cT 3) ∧ Ag f g
theorem join {right : Int → Bool} {next : Tup 6 × See → Tup 6} {counts : Tup 4 × Tup 3 → Tup 4 × Tup 3} {write : Tel → Fra × Bool} {wrap : Fra → ByteArray × Bool} {read : Fra → Tup 5 × Bool} {fresh : Tup 5 × Int → Bool} {oread oreadD : Fra → Tup 9 × Int} (H : Rest2 right next counts write wrap read fresh oread oreadD) :
    ∃ F D : Fs, FsOk F ∧ DsOk D ∧ Same F D ∧ F.right = right ∧ F.next = next ∧ F.counts = counts ∧ F.write = write ∧ F.wrap = wrap ∧ F.read = read ∧ F.fresh = fresh ∧ F.oread = oread ∧ F.start = st43 := by
  obtain ⟨pl, pl', hpl, hpl', apl⟩ := Nx.place_ag
  obtain ⟨di, di', hdi, hdi', adi⟩ := Nx.dir_ag
  obtain ⟨sk, sk', hsk, hsk', ask⟩ := H.sky
  obtain ⟨no, no', hno, hno', ano⟩ := Nx.norm_ag
  obtain ⟨sh, hsh, hsh'⟩ := Nx.shaded_ag
  obtain ⟨mo, mo', hmo, hmo', amo⟩ := Nx.move_ag
  obtain ⟨me, me', hme, hme', ame⟩ := Nx.meet_ag
  obtain ⟨sp, sp', hsp, hsp', asp⟩ := Nx.spread_ag
  obtain ⟨att, att', hatt, hatt', aatt⟩ := Nx.att_ag
  refine ⟨⟨right, pl, di, sk, no, Nx.apF, sh, mo, me, sp, att, st43, fun bad x => driB (stepB bad (drOf x.1) (v3Of x.2.1) x.2.2), fun bad d => driV (dipB bad (drOf d)), next, counts, write, wrap, read, fresh, oread⟩,
    ⟨right, pl', di', sk', no', Nx.apF, sh, mo', me', sp', att', st43, bstR, ddipW, next, counts, write, wrap, read, fresh, oreadD⟩, ?_, ?_, ?_, rfl, rfl, rfl, rfl, rfl, rfl, rfl, rfl, rfl⟩
  · exact ⟨H.right.1, hpl, hdi, hsk, hno, Nx.apart_ag.1, hsh, hmo, hme, hsp, hatt, startC_fx, cStep_fx, cDip_fx, H.next.1, H.counts.1, H.write.1, H.wrap.1, H.read.1, H.fresh.1, H.oread.1⟩
  · exact ⟨H.right.2, hpl', hdi', hsk', hno', Nx.apart_ag.2, hsh', hmo', hme', hsp', hatt', startD_fx, bstD_fx, ddip_fx, H.next.2, H.counts.2, H.write.2, H.wrap.2, H.read.2, H.fresh.2, H.oread.2.1⟩
  · exact ⟨rfl, apl, adi, ask, ano, rfl, rfl, amo, ame, asp, aatt, rfl, fun d v k hd hk => congrArg Prod.fst (step_is false d v hd hk), fun d => congrArg Prod.fst (dip_is false d), rfl, rfl, rfl, rfl, rfl, rfl, H.oread.2.2⟩
end Go.Proofs.YtoadcnhcfodkgaaGreatDoor
