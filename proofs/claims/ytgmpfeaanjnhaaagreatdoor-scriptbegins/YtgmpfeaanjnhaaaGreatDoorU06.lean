/-
A part.
A part.
A part.
A part.
A part.
A part.
A part.
A part.
A part.
A part.
A part.
A part.
A part.
A part.
-/
import Derived.Shelf.LaysC
import Derived.Shelf.LaysM
import Derived.Shelf.Strconv.Itoa4
import Derived.Shelf.Strconv.ParseIntPublic10
import Derived.Shelf.Strings.BuilderK
import Derived.Shelf.Strings.Count
import Derived.Shelf.Strings.OnBuilder
import Derived.Shelf.Strings.Prefix
import Derived.Shelf.Strings.Split
import Derived.Test.YtgmpfeaanjnhaaaGreatDoorProg
import Derived.Lib.SplitLaws
import Derived.Lib.ParseIntB
import Derived.Lib.ItoaNum
import Derived.Lib.ParseIntBTie
import Derived.Shelf.Strconv.ErrVarParseInt
import Derived.LoopN
import Derived.Handy
import Derived.WalkSpells
import Derived.Laws.IdiomStrings
import Derived.Laws.Concat
import Derived.Test.YtgmpfeaanjnhaaaGreatDoorU05
import Derived.Test.YtgmpfeaanjnhaaaGreatDoorU04
import Derived.Test.YtgmpfeaanjnhaaaGreatDoorU01
namespace Go.Proofs.YtgmpfeaanjnhaaaGreatDoor
open Go.RowKit
theorem Ka{bl:Bl}{x:Option Nat}{i B:Nat}(h:(bl++[x])[i]? =some (some B)):bl[i]? =some (some B)∨(i=bl.length/\x=some B):=by
 by_cases e:i<bl.length
 ·rw[List.getElem?_append_left e]at h
  exact .inl h
 ·rw[List.getElem?_append_right (by omega)]at h
  have hi:=(List.getElem?_eq_some_iff.1 h).1
  simp only[List.length_cons,List.length_nil]at hi
  have e2:i=bl.length:=by omega
  subst e2
  rw[Nat.sub_self]at h
  exact .inr ⟨rfl,Option.some.inj h⟩
theorem RW.add{bs:List Nat}{w0:World}{bl:Bl}{m:Xm}{w:World}(h:RW bs w0 bl m w)(hl:bl.length=m.length){g:Nat}{row:List Value}(A:Ap g row w)(hg:w0.heap.size<=g)(hn:∀k:Nat,bl[k]? ≠some (some g)):RW bs w0 (bl++[some g]) (m++[row]) w:=by
 refine⟨fun i B hi=>?_,fun i j B hi hj=>?_,fun i B hi=>?_,h.os,h.tape,h.output,h.size,h.block,h.gw⟩
 ·rcases Ka hi with h1 |⟨rfl,e⟩
  ·obtain⟨l,h2,A2⟩:=h.arr i B h1
   exact⟨l,by rw[List.getElem?_append_left (List.getElem?_eq_some_iff.1 h2).1];exact h2,A2⟩
  ·cases e
   exact⟨row,by rw[hl,List.getElem?_append_right (Nat.le_refl _),Nat.sub_self];rfl,A⟩
 ·rcases Ka hi with h1 |⟨rfl,e⟩<;>rcases Ka hj with h2 |⟨rfl,e2⟩
  ·exact h.inj i j B h1 h2
  ·cases e2;exact absurd h1 (hn i)
  ·cases e;exact absurd h2 (hn j)
  ·rfl
 ·rcases Ka hi with h1 |⟨rfl,e⟩
  ·exact(h.own i B h1).imp id (Or.imp id fun e=>by rw[List.getElem?_append_left (List.getElem?_eq_some_iff.1 e).1];exact e)
  ·cases e;exact .inr (.inl hg)
theorem Le.last(bl:Bl)(x:Option Nat):Le bl (bl++[x]):=fun k B hk=>by
 rw[List.getElem?_append_left (List.getElem?_eq_some_iff.1 hk).1]
 exact hk
theorem Ye{w:World}{g:Nat}{cur:Array Value}{e:TypeId}{xs:List Value}{n:Nat}(h:w.heap[g]? =some (.cells cur e (0,0)))(hx:cur.toList.take n=xs):Ap g xs w:=by
 refine⟨fun i hi=>?_,fun i hi=>?_,(Array.getElem?_eq_some_iff.1 h).1⟩
 ·have h1:xs[i]? =cur[i]? :=by
   subst hx
   rw[List.length_take]at hi
   rw[List.getElem?_take_of_lt (by omega),Array.getElem?_toList]
  rw[List.getElem?_eq_getElem hi]at h1
  simp[World.cell?,h,<-h1]
 ·simp[World.frozen?,h]
theorem RW.frames{bs:List Nat}{w0:World}{bl:Bl}{m:Xm}{w w':World}(h:RW bs w0 bl m w)(hl:bl.length=3)(hm:m.length=3)(hb:Below w.heap.size w w'){v:Value}{l:List (UInt8×List UInt8)}(hf:Dx w.heap.size w' v l):
    ∃x sl,Lf sl l/\RV (bl++[x]) sl v/\RW bs w0 (bl++[x]) (m++[cellsOf l]) w':=by
 have h':=h.pure hb
 rcases hf.2 with⟨rfl,h0⟩|⟨g,cap,cur,rfl,hg,hgg,_,_,_,hx⟩
 ·exact⟨none,.slice none 0 0,.inl ⟨rfl,List.length_eq_zero_iff.1 h0⟩,rfl,h'.wide 1 _⟩
 ·have h3:(bl++[some g])[3]? =some (some g):=by rw[List.getElem?_append_right (by omega),hl];rfl
  refine⟨some g,.slice (some ⟨3,0,none⟩) l.length cap,.inr ⟨cap,rfl⟩,⟨g,h3,rfl⟩,h'.add (hl.trans hm.symm) (Ye hgg hx) (Nat.le_trans h.size hg) (fun k hk=>?_)⟩
  obtain⟨_,_,A⟩:=h.arr k g hk
  have:=A.lies
  omega
def restOf(L:List UInt8):ByteArray:=⟨(scanL L).2.1.toArray⟩
def r1(K:List Value->Xm->Prop)(vt:List Value)(m:Xm):Prop:=
 match vt.getD 3 undef,vt.getD 2 undef,m.headD []with
 | .pointer (some ⟨0,0,none⟩),.string s1,_::_::.string s0::_=>
  s0.size+s1.size<=5000/\m.length=3/\vt.length=67/\∀sl,Lf sl (scanL (s0++s1).data.toList).1->
   K ((((((((((((vt.set 15 .nilIface).set 16 .nilIface).set 17 .nilIface).set 18 .nilIface).set 19 .nilIface).set 14 .nilIface).set 20 sl).set 21 (.string (restOf (s0++s1).data.toList))).set 22 (.int .i64 ((scanL (s0++s1).data.toList).2.2:Nat))).set 8 sl).set 9 (.string (restOf (s0++s1).data.toList))).set 10 (.int .i64 ((scanL (s0++s1).data.toList).2.2:Nat))) (m++[cellsOf (scanL (s0++s1).data.toList).1])
 |_,_,_=>False
theorem IB{P:Program}{ops:Array Oper}{Q:Exit->Act->World->Prop}{i:Nat}{rest:List Nat}{a:Act}{w:World}{o:Oper}{f:Nat}{args:Array Value}{R:Ending->World->Prop}(ho:ops[i]? =some o)(hg:o.guard=none)(hr:(execOp a.eval o).run P w=.ok (.enter f args) w)
    (hc:Calls P f args w R) (h:∀e w',R e w'->∃v,e=.returned v/\wpOps P ops Q rest (a.put o.dst v) w'):wpOps P ops Q (i::rest) a w:=by
 rw[wpOps_cons]
 unfold wpOp
 rw[ho]
 dsimp only
 rw[show Region.wanted o (yielded ops a.tmps)=true by unfold Region.wanted;rw[hg],if_pos rfl]
 refine .inl ?_
 unfold Oper.wp
 rw[hr]
 refine Calls.mono hc ?_
 intro e w' he
 obtain⟨v,rfl,hv⟩:=h e w' he
 exact hv
theorem Acw{P:Program}{ops:Array Oper}{Q:Exit->Act->World->Prop}{i:Nat}{rest:List Nat}{a:Act}{w w':World}{o:Oper}{v:Value}(ho:ops[i]? =some o)(hg:Region.wanted o (yielded ops a.tmps)=true)(hr:(execOp a.eval o).run P w=.ok (.value v) w')
    (h:wpOps P ops Q rest (a.put o.dst v) w'):wpOps P ops Q (i::rest) a w:=by
 rw[wpOps_cons]
 unfold wpOp
 rw[ho]
 dsimp only
 rw[hg,if_pos rfl]
 refine .inl ?_
 unfold Oper.wp
 rw[hr]
 exact h
theorem Aq{o:Oper}{y:Nat->Option Bool}(h:o.guard=none):Region.wanted o y=true:=by unfold Region.wanted;rw[h]
theorem Ay{P:Program}{ops:Array Oper}{Q:Exit->Act->World->Prop}{i:Nat}{rest:List Nat}{a:Act}{w w':World}{o:Oper}{v v':Value}{d N:Nat}{bl:Bl}{vt:List Value}{ds:List Deferred}(ho:ops[i]? =some o)(hd:o.dst=some d)(hg:Region.wanted o (yielded ops a.tmps)=true)(hr:(execOp a.eval o).run P w=.ok (.value v') w')(F:FR bl vt a.tmps)(D:a.defers=ds)(hl:a.tmps.size=N)(hN:d<N)(hv:RV bl v v')
    (h:∀a':Act,FR bl (vt.set d v) a'.tmps->a'.defers=ds->a'.tmps.size=N->a'.eval (.tmp d)=v'->(∀e,d≠e->a'.eval (.tmp e)=a.eval (.tmp e))->wpOps P ops Q rest a' w'):wpOps P ops Q (i::rest) a w:=by
 refine Acw ho hg hr ?_
 rw[hd]
 exact h _ (F.put hv (some d)) ((AJ a (some d) v').trans D) (Db.trans hl) (DC (by omega)) (fun e he=>Nh he)
set_option maxHeartbeats 1000000 in
theorem Acx{bs:List Nat}{w0:World}{ds:List Deferred}{bl0:Bl}{K:List Value->Xm->Prop}{Q:Exit->Act->World->Prop}{bl:Bl}{vt:List Value}{m:Xm}{a:Act}{w:World}{ops:Array Oper}{tC tT:TypeId}{fn:Nat}{o0 o1 o2 o3 o4 o5 o6 o7 o8 o9 o10 o11:Oper}(hfn:fn=94)
    (hfl:Ky Tryz.prog tC 2=some 2) (hag:qrun Tryz.prog (isAgg tT)=some false) (ho:ops=#[o0,o1,o2,o3,o4,o5,o6,o7,o8,o9,o10,o11])
    (h0:o0.dst=some 15/\o0.op=.fieldAddr tC (.tmp 3) 2/\o0.guard=none) (h1:o1.dst=some 16/\o1.op=.load tT (.tmp 15)/\o1.guard=none) (h2:o2.dst=some 17/\o2.op=.move (.tmp 2)/\o2.guard=none) (h3:o3.dst=some 18/\o3.op=.binOp .add tT (.tmp 16) (.tmp 17) tT/\o3.guard=none) (h4:o4.dst=some 19/\o4.op=.call {callee:=.value (.func fn),args:=#[.tmp 18],argTypes:=#[tT]}/\o4.guard=none) (h5:o5.dst=some 14/\o5.op=.move (.tmp 19)/\o5.guard=none) (h6:o6.dst=some 20/\o6.op=.extract (.tmp 14) 0/\o6.guard=none) (h7:o7.dst=some 21/\o7.op=.extract (.tmp 14) 1/\o7.guard=none) (h8:o8.dst=some 22/\o8.op=.extract (.tmp 14) 2/\o8.guard=none) (h9:o9.dst=some 8/\o9.op=.assign (.tmp 20)/\o9.guard=none) (h10:o10.dst=some 9/\o10.op=.assign (.tmp 21)/\o10.guard=none) (h11:o11.dst=some 10/\o11.op=.assign (.tmp 22)/\o11.guard=none)
    (h:r1 K vt m) (r:Rl bs w0 ds bl0 bl vt m a w) (hK:∀bl vt m a w,K vt m->Rl bs w0 ds bl0 bl vt m a w->Q .normal a w):(Code.region 1 ops false).wp Tryz.prog Q a w:=by
 subst ho hfn
 have hlen:=r.F.len
 unfold r1 at h
 split at h
 case h_2=>exact h.elim
 rename_i s1 x0 x1 s0 xs hp h2v hrow
 obtain⟨hsz,hm3,hlt,hk⟩:=h
 rw[hlt]at hlen
 have hbl:bl.length=3:=r.len.trans hm3
 have hp':=r.F.rv 3
 rw[hp]at hp'
 obtain⟨B,hB,hpe⟩:=hp'
 have hpe:a.eval (.tmp 3)=.pointer (some ⟨B,0,none⟩):=hpe
 have h2':=r.F.rv 2
 rw[h2v]at h2'
 have h2':a.eval (.tmp 2)=.string s1:=h2'
 obtain⟨row,e0,A0⟩:=r.R.arr 0 B hB
 have erow:row=x0::x1::.string s0::xs:=by
  match m,e0,hrow with
  |_::_,e0,hrow=>cases e0;exact hrow
 subst erow
 have hld:FD Tryz.prog tT (x0::x1::.string s0::xs) 2=some (.string s0):=by unfold FD;rw[hag];rfl
 have rld:=Gp hld A0
 have rfl1:=Kz hfl B 0 w
 have F:=r.F
 have D:=r.defers
 refine wp_region ?_
 have E2:=h2'
 refine Ay (v:=.nilIface) (v':=(.pointer (some ⟨B,2,none⟩))) (w':=w) rfl h0.1 (Aq h0.2.2) (by simp[execOp,h0.2.1,hpe,rfl1]) F D hlen (by decide) (rfl) fun a F D hlen E15 X=>?_
 have E2:=(X 2 (by decide)).trans E2
 refine Ay (v:=.nilIface) (v':=(.string s0)) (w':=w) rfl h1.1 (Aq h1.2.2) (by simp[execOp,h1.2.1,E15,Instr.loadAt,Instr.sureAddr,rld]) F D hlen (by decide) (rfl) fun a F D hlen E16 X=>?_
 have E2:=(X 2 (by decide)).trans E2
 refine Ay (v:=.nilIface) (v':=(.string s1)) (w':=w) rfl h2.1 (Aq h2.2.2) (by simp[execOp,h2.2.1,E2]) F D hlen (by decide) (rfl) fun a F D hlen E17 X=>?_
 have E16:=(X 16 (by decide)).trans E16
 refine Ay (v:=.nilIface) (v':=(.string (s0++s1))) (w':=w) rfl h3.1 (Aq h3.2.2) (by simp[execOp,h3.2.1,E16,E17,eqGuard,binOp,Op.stringOp];omega) F D hlen (by decide) (rfl) fun a F D hlen E18 X=>?_
 have hss:(s0++s1).size<=5000:=by rw[ByteArray.size_append];exact hsz
 refine IB (o:=o4) (args:=#[.string (s0++s1)]) rfl h4.2.2 ?_ (Acs (s0++s1) w hss) ?_
 ·have:=Af Tryz.func94 (by kernel_rfl) (by kernel_rfl) #[.string (s0++s1)] w
  have hf:a.eval (.func 94)=.func (.func 94) #[] #[]:=rfl
  simp[execOp,h4.2.1,resolve,hf,E18,Deferred.ofValue,invoke,this]
 rintro e w' ⟨v,rr,rfl,hrr,hfr,hbel⟩
 refine⟨_,rfl,?_⟩
 obtain⟨x,sl,hsl,hrv,R'⟩:=r.R.frames hbl hm3 hbel hfr
 have hrr':rr=restOf (s0++s1).data.toList:=by
  unfold restOf
  rw[<-hrr]
 subst hrr'
 have hL:=Le.last bl x
 have F:=F.mono hL
 have hk:=hk sl hsl
 rw[h4.1]
 have F:=F.put (v:=.nilIface) (v':=(.tuple #[v,.string (restOf (s0++s1).data.toList),.int .i64 ((scanL (s0++s1).data.toList).2.2:Nat)])) rfl (some 19)
 have D:=(AJ a (some 19) (.tuple #[v,.string (restOf (s0++s1).data.toList),.int .i64 ((scanL (s0++s1).data.toList).2.2:Nat)])).trans D
 have E19:(a.put (some 19) (.tuple #[v,.string (restOf (s0++s1).data.toList),.int .i64 ((scanL (s0++s1).data.toList).2.2:Nat)])).eval (.tmp 19)=(.tuple #[v,.string (restOf (s0++s1).data.toList),.int .i64 ((scanL (s0++s1).data.toList).2.2:Nat)]):=DC (by rw[hlen];decide)
 have hlen:=(Db (a:=a) (d:=some 19) (v:=(.tuple #[v,.string (restOf (s0++s1).data.toList),.int .i64 ((scanL (s0++s1).data.toList).2.2:Nat)]))).trans hlen
 generalize a.put (some 19) (.tuple #[v,.string (restOf (s0++s1).data.toList),.int .i64 ((scanL (s0++s1).data.toList).2.2:Nat)])=a at F D E19 hlen ⊢
 refine Ay (v:=.nilIface) (v':=(.tuple #[v,.string (restOf (s0++s1).data.toList),.int .i64 ((scanL (s0++s1).data.toList).2.2:Nat)])) (w':=w') rfl h5.1 (Aq h5.2.2) (by simp[execOp,h5.2.1,E19]) F D hlen (by decide) (rfl) fun a F D hlen E14 X=>?_
 refine Ay (v:=sl) (v':=v) (w':=w') rfl h6.1 (Aq h6.2.2) (by simp[execOp,h6.2.1,E14,Instr.extract]) F D hlen (by decide) (hrv) fun a F D hlen E20 X=>?_
 have E14:=(X 14 (by decide)).trans E14
 refine Ay (v:=(.string (restOf (s0++s1).data.toList))) (v':=(.string (restOf (s0++s1).data.toList))) (w':=w') rfl h7.1 (Aq h7.2.2) (by simp[execOp,h7.2.1,E14,Instr.extract]) F D hlen (by decide) (rfl) fun a F D hlen E21 X=>?_
 have E14:=(X 14 (by decide)).trans E14
 have E20:=(X 20 (by decide)).trans E20
 refine Ay (v:=(.int .i64 ((scanL (s0++s1).data.toList).2.2:Nat))) (v':=(.int .i64 ((scanL (s0++s1).data.toList).2.2:Nat))) (w':=w') rfl h8.1 (Aq h8.2.2) (by simp[execOp,h8.2.1,E14,Instr.extract]) F D hlen (by decide) (rfl) fun a F D hlen E22 X=>?_
 have E20:=(X 20 (by decide)).trans E20
 have E21:=(X 21 (by decide)).trans E21
 refine Ay (v:=sl) (v':=v) (w':=w') rfl h9.1 (Aq h9.2.2) (by simp[execOp,h9.2.1,E20]) F D hlen (by decide) (hrv) fun a F D hlen E8 X=>?_
 have E21:=(X 21 (by decide)).trans E21
 have E22:=(X 22 (by decide)).trans E22
 refine Ay (v:=(.string (restOf (s0++s1).data.toList))) (v':=(.string (restOf (s0++s1).data.toList))) (w':=w') rfl h10.1 (Aq h10.2.2) (by simp[execOp,h10.2.1,E21]) F D hlen (by decide) (rfl) fun a F D hlen E9 X=>?_
 have E22:=(X 22 (by decide)).trans E22
 refine Ay (v:=(.int .i64 ((scanL (s0++s1).data.toList).2.2:Nat))) (v':=(.int .i64 ((scanL (s0++s1).data.toList).2.2:Nat))) (w':=w') rfl h11.1 (Aq h11.2.2) (by simp[execOp,h11.2.1,E22]) F D hlen (by decide) (rfl) fun a F D hlen E10 X=>?_
 exact hK _ _ _ _ _ hk ⟨F,R',r.le.trans hL,by rw[List.length_append,List.length_append,hbl,hm3];rfl,D⟩
theorem EG{P:Program}{c c':Code}{Q:Exit->Act->World->Prop}{a:Act}{w:World}(h:c=c')(H:c'.wp P Q a w):c.wp P Q a w:=h▸H
section
variable {P:Program} {tbl:List (Ct P)} {bs:List Nat} {w0:World} {ds:List Deferred} {dirty:Nat->List Nat} {n:Nat} {bl0:Bl} {ov:Ov}
theorem Yf(hm:P.follows .mixedOrders=true){x y:Code}{Q:VQ}{Q':Exit->Act->World->Prop}{K:Act->World->Prop}{bl:Bl}{vt:List Value}{m:Xm}{a:Act}{w:World}(hx:D9 P ov bs w0 ds bl0 x)(hy:D9 P ov bs w0 ds bl0 y)(hQ:N3 bs w0 ds bl0 Q Q')
    (h:BR P tbl dirty n ov (.seq x y) Q vt m) (r:Rl bs w0 ds bl0 bl vt m a w) (hK:∀a w,y.wp P Q' a w->K a w):x.wp P (Exit.then K Q') a w:=by
 refine Hf hm x _ _ bl vt m a w hx ?_ h r
 intro e bl' vt' m' a' w' h' r'
 cases e with
 |normal=>exact hK _ _ (Hf hm y Q Q' bl' vt' m' a' w' hy hQ h' r')
 |exit id=>exact hQ _ bl' vt' m' a' w' h' r'
 |goto l=>exact hQ _ bl' vt' m' a' w' h' r'
 |ret=>exact hQ _ bl' vt' m' a' w' h' r'
 |panic ch=>exact hQ _ bl' vt' m' a' w' h' r'
 |outgrown=>exact hQ _ bl' vt' m' a' w' h' r'
end
theorem Acy(bl:Bl)(v:Value):RV bl (Apm v) v:=by cases v<;>rfl
theorem Lg{j:Nat}{v:Value}:∀{ks:List (Nat×Value)},ks.lookup j=some v->(j,v)∈ks
 |[],h=>by cases h
 | (i,u)::ks,h=>by
  by_cases e:j=i
  ·subst e
   simp only[List.lookup,beq_self_eq_true]at h
   cases h
   exact List.mem_cons_self
  ·have e':(j==i)=false:=by simpa using e
   simp only[List.lookup,e']at h
   exact List.mem_cons_of_mem _ (Lg h)
theorem Auh{bl:Bl}{tm:Array Value}{N:Nat}{ks:List (Nat×Value)}(hl:tm.size=N)(h:∀p∈ks,RV bl p.2 (tm.getD p.1 undef)):FR bl (frm ks (fun j=>tm.getD j undef) N) tm:=by
 refine⟨by unfold frm;simp[hl],fun t=>?_⟩
 unfold frm
 by_cases ht:t<N
 ·rw[List.getD_eq_getElem?_getD,List.getElem?_map,List.getElem?_range ht]
  simp only[Option.map_some,Option.getD_some]
  split
  ·rename_i v hv
   exact h _ (Lg hv)
  ·exact Acy bl _
 ·rw[List.getD_eq_getElem?_getD,List.getElem?_eq_none (by simp;omega),Array.getD_eq_getD_getElem?,Array.getElem?_eq_none (by omega)]
  exact .same rfl
section
variable {P:Program} {tbl:List (Ct P)} {bs:List Nat} {w0:World} {ds:List Deferred} {dirty:Nat->List Nat} {n N:Nat} {bl:Bl} {ov:Ov}
def SP(P:Program)(fn:Func)(Post:Value->Prop):VQ:=fun e vt m=>match e with
 | .ret=>(match N4 P fn vt m with
  |some v=>Post v
  |none=>False)
 |_=>False
theorem Acz{id:Nat}{fn fn':Func}(e:fn=fn'){Post:Value->Prop}{R:Ending->World->Prop}{K:Act->World->Prop}{ds':List Deferred}(hds:ds'=[])(h:∀v bl m w,Post v->RW bs w0 bl m w->R (.returned v) w):N3 bs w0 ds' bl (SP P fn Post) (Exit.inBlock id (Exit.then K (bodyPost P fn' R))):=by
 subst e hds
 intro e bl' vt' m' a' w' h' r'
 cases e with
 | ret=>
  simp only[SP]at h'
  split at h'
  ·rename_i v hv
   exact⟨r'.defers,v,FX r'.F r'.R hv,h v bl' m' w' h' r'.R⟩
  ·exact h'.elim
 |normal=>exact h'.elim
 |exit id=>exact h'.elim
 |goto l=>exact h'.elim
 |panic ch=>exact h'.elim
 |outgrown=>exact h'.elim
theorem V2{c:Code}{ds':List Deferred}:D9 P (fun _=>none) bs w0 ds' bl c:=VX c fun r _ R hR=>by cases hR
end
end Go.Proofs.YtgmpfeaanjnhaaaGreatDoor
namespace Go.Proofs.YtgmpfeaanjnhaaaGreatDoor
def shf169_ren:Go.Shelf.Ren:=⟨fun |169=>16 |n=>n,fun |70=>55 |9=>9 |0=>0 |72=>58 |37=>56 |127=>92 |3=>3 |5=>5 |n=>n,fun |n=>n⟩
theorem Apz:Go.Proofs.Lays.n169 Tryz.prog shf169_ren:={
 mixed:=by kernel_rfl
 f169:=Tryz.func16.trans (congrArg some (by kernel_rfl))
 t0:=Tryz.underlying0
 a0:=Tryz.isAgg0
 z0:=Tryz.sizeOf0
 v0:=Tryz.zeroValue0
 t3:=Tryz.underlying3
 a3:=Tryz.isAgg3
 z3:=Tryz.sizeOf3
 v3:=Tryz.zeroValue3
 t9:=Tryz.underlying9
 a9:=Tryz.isAgg9
 z9:=Tryz.sizeOf9
 v9:=Tryz.zeroValue9
 t37:=Tryz.underlying56
 a37:=Tryz.isAgg56
 z37:=Tryz.sizeOf56
 v37:=Tryz.zeroValue56
 t70:=Tryz.underlying55
 a70:=Tryz.isAgg55
 z70:=Tryz.sizeOf55
 v70:=Tryz.zeroValue55
 t72:=Tryz.underlying58
 a72:=Tryz.isAgg58
 z72:=Tryz.sizeOf58
 v72:=Tryz.zeroValue58
 t127:=Tryz.underlying92
 a127:=Tryz.isAgg92
 z127:=Tryz.sizeOf92
 v127:=Tryz.zeroValue92}
theorem Ajw:Builder.Extra Tryz.prog shf169_ren:={
 sizeBuilder:=by kernel_rfl
 liesBuilder:=by kernel_rfl
 t5:=Tryz.underlying5
 a5:=Tryz.isAgg5
 z5:=Tryz.sizeOf5
 v5:=Tryz.zeroValue5
 infoByte:=by kernel_rfl
 cellsByte:=by kernel_rfl
 sizeByte:=by kernel_rfl
 neB5:=by decide}
def shf156_ren:Go.Shelf.Ren:=⟨fun |156=>83 |165=>123 |166=>14 |169=>16 |240=>29 |241=>194 |276=>45 |277=>260 |n=>n,fun |31=>29 |9=>9 |3=>3 |4=>4 |0=>0 |20=>20 |72=>58 |76=>63 |70=>55 |37=>56 |75=>62 |127=>92 |164=>100 |5=>5 |80=>66 |n=>n,fun |n=>n⟩
theorem Ac0:Go.Proofs.Lays.n156 Tryz.prog shf156_ren:={
 mixed:=by kernel_rfl
 f156:=Tryz.func83.trans (congrArg some (by kernel_rfl))
 f165:=Tryz.func123.trans (congrArg some (by kernel_rfl))
 f166:=Tryz.func14.trans (congrArg some (by kernel_rfl))
 f169:=Tryz.func16.trans (congrArg some (by kernel_rfl))
 f240:=Tryz.func29.trans (congrArg some (by kernel_rfl))
 f241:=Tryz.func194.trans (congrArg some (by kernel_rfl))
 f276:=Tryz.func45.trans (congrArg some (by kernel_rfl))
 f277:=Tryz.func260.trans (congrArg some (by kernel_rfl))
 t0:=Tryz.underlying0
 a0:=Tryz.isAgg0
 z0:=Tryz.sizeOf0
 v0:=Tryz.zeroValue0
 t3:=Tryz.underlying3
 a3:=Tryz.isAgg3
 z3:=Tryz.sizeOf3
 v3:=Tryz.zeroValue3
 t4:=Tryz.underlying4
 a4:=Tryz.isAgg4
 z4:=Tryz.sizeOf4
 v4:=Tryz.zeroValue4
 t9:=Tryz.underlying9
 a9:=Tryz.isAgg9
 z9:=Tryz.sizeOf9
 v9:=Tryz.zeroValue9
 t20:=Tryz.underlying20
 a20:=Tryz.isAgg20
 z20:=Tryz.sizeOf20
 v20:=Tryz.zeroValue20
 t31:=Tryz.underlying29
 a31:=Tryz.isAgg29
 z31:=Tryz.sizeOf29
 v31:=Tryz.zeroValue29
 t37:=Tryz.underlying56
 a37:=Tryz.isAgg56
 z37:=Tryz.sizeOf56
 v37:=Tryz.zeroValue56
 t70:=Tryz.underlying55
 a70:=Tryz.isAgg55
 z70:=Tryz.sizeOf55
 v70:=Tryz.zeroValue55
 t72:=Tryz.underlying58
 a72:=Tryz.isAgg58
 z72:=Tryz.sizeOf58
 v72:=Tryz.zeroValue58
 t75:=Tryz.underlying62
 a75:=Tryz.isAgg62
 z75:=Tryz.sizeOf62
 v75:=Tryz.zeroValue62
 t76:=Tryz.underlying63
 a76:=Tryz.isAgg63
 z76:=Tryz.sizeOf63
 v76:=Tryz.zeroValue63
 t127:=Tryz.underlying92
 a127:=Tryz.isAgg92
 z127:=Tryz.sizeOf92
 v127:=Tryz.zeroValue92
 t164:=Tryz.underlying100
 a164:=Tryz.isAgg100
 z164:=Tryz.sizeOf100
 v164:=Tryz.zeroValue100}
theorem shfX156:Builder.Extra Tryz.prog shf156_ren:={
 sizeBuilder:=by kernel_rfl
 liesBuilder:=by kernel_rfl
 t5:=Tryz.underlying5
 a5:=Tryz.isAgg5
 z5:=Tryz.sizeOf5
 v5:=Tryz.zeroValue5
 infoByte:=by kernel_rfl
 cellsByte:=by kernel_rfl
 sizeByte:=by kernel_rfl
 neB5:=by decide}
def shfM173_ren:Go.Shelf.Ren:=⟨fun |173=>82 |246=>122 |283=>190 |284=>191 |285=>192 |286=>193 |129=>256 |317=>255 |318=>257 |319=>258 |320=>259 |337=>286 |338=>287 |n=>n,fun |2=>2 |3=>3 |9=>9 |4=>4 |171=>257 |0=>0 |53=>98 |37=>56 |5=>5 |173=>260 |212=>329 |51=>155 |20=>20 |213=>330 |46=>116 |232=>358 |233=>359 |n=>n,fun |17=>3 |18=>8 |19=>9 |n=>n⟩
theorem Ajx:Go.Proofs.LaysM.n173 Tryz.prog shfM173_ren:={
 mixed:=by kernel_rfl
 f129:=Tryz.func256.trans (congrArg some (by kernel_rfl))
 f173:=Tryz.func82.trans (congrArg some (by kernel_rfl))
 f246:=Tryz.func122.trans (congrArg some (by kernel_rfl))
 f283:=Tryz.func190.trans (congrArg some (by kernel_rfl))
 f284:=Tryz.func191.trans (congrArg some (by kernel_rfl))
 f285:=Tryz.func192.trans (congrArg some (by kernel_rfl))
 f286:=Tryz.func193.trans (congrArg some (by kernel_rfl))
 f317:=Tryz.func255.trans (congrArg some (by kernel_rfl))
 f318:=Tryz.func257.trans (congrArg some (by kernel_rfl))
 f319:=Tryz.func258.trans (congrArg some (by kernel_rfl))
 f320:=Tryz.func259.trans (congrArg some (by kernel_rfl))
 f337:=Tryz.func286.trans (congrArg some (by kernel_rfl))
 f338:=Tryz.func287.trans (congrArg some (by kernel_rfl))
 t0:=Tryz.underlying0
 a0:=Tryz.isAgg0
 z0:=Tryz.sizeOf0
 v0:=Tryz.zeroValue0
 t2:=Tryz.underlying2
 a2:=Tryz.isAgg2
 z2:=Tryz.sizeOf2
 v2:=Tryz.zeroValue2
 t3:=Tryz.underlying3
 a3:=Tryz.isAgg3
 z3:=Tryz.sizeOf3
 v3:=Tryz.zeroValue3
 t4:=Tryz.underlying4
 a4:=Tryz.isAgg4
 z4:=Tryz.sizeOf4
 v4:=Tryz.zeroValue4
 t5:=Tryz.underlying5
 a5:=Tryz.isAgg5
 z5:=Tryz.sizeOf5
 v5:=Tryz.zeroValue5
 t9:=Tryz.underlying9
 a9:=Tryz.isAgg9
 z9:=Tryz.sizeOf9
 v9:=Tryz.zeroValue9
 t20:=Tryz.underlying20
 a20:=Tryz.isAgg20
 z20:=Tryz.sizeOf20
 v20:=Tryz.zeroValue20
 t37:=Tryz.underlying56
 a37:=Tryz.isAgg56
 z37:=Tryz.sizeOf56
 v37:=Tryz.zeroValue56
 t46:=Tryz.underlying116
 a46:=Tryz.isAgg116
 z46:=Tryz.sizeOf116
 v46:=Tryz.zeroValue116
 t51:=Tryz.underlying155
 a51:=Tryz.isAgg155
 z51:=Tryz.sizeOf155
 v51:=Tryz.zeroValue155
 t53:=Tryz.underlying98
 a53:=Tryz.isAgg98
 z53:=Tryz.sizeOf98
 v53:=Tryz.zeroValue98
 t171:=Tryz.underlying257
 a171:=Tryz.isAgg257
 z171:=Tryz.sizeOf257
 v171:=Tryz.zeroValue257
 t173:=Tryz.underlying260
 a173:=Tryz.isAgg260
 z173:=Tryz.sizeOf260
 v173:=Tryz.zeroValue260
 t212:=Tryz.underlying329
 a212:=Tryz.isAgg329
 z212:=Tryz.sizeOf329
 v212:=Tryz.zeroValue329
 t213:=Tryz.underlying330
 a213:=Tryz.isAgg330
 z213:=Tryz.sizeOf330
 t232:=Tryz.underlying358
 a232:=Tryz.isAgg358
 z232:=Tryz.sizeOf358
 v232:=Tryz.zeroValue358
 t233:=Tryz.underlying359
 a233:=Tryz.isAgg359
 z233:=Tryz.sizeOf359
 v233:=Tryz.zeroValue359
 g17:=by kernel_rfl
 g18:=by kernel_rfl
 g19:=by kernel_rfl
 i0:=by kernel_rfl
 i2:=by kernel_rfl
 i3:=by kernel_rfl
 i4:=by kernel_rfl
 i5:=by kernel_rfl
 i9:=by kernel_rfl
 i20:=by kernel_rfl
 i37:=by kernel_rfl
 i46:=by kernel_rfl
 i51:=by kernel_rfl
 i53:=by kernel_rfl
 i171:=by kernel_rfl
 i173:=by kernel_rfl
 i212:=by kernel_rfl
 i232:=by kernel_rfl
 i233:=by kernel_rfl
 m17:=by kernel_rfl
 m18:=by kernel_rfl
 m19:=by kernel_rfl}
def shfC174_ren:Go.Shelf.Ren:=⟨fun |174=>89 |247=>129 |245=>130 |287=>197 |279=>198 |280=>199 |281=>200 |282=>201 |321=>261 |322=>262 |316=>207 |171=>264 |205=>263 |243=>288 |246=>122 |283=>190 |284=>191 |285=>192 |286=>193 |129=>256 |317=>255 |318=>257 |319=>258 |320=>259 |337=>286 |338=>287 |n=>n,fun |9=>9 |3=>3 |2=>2 |75=>62 |85=>158 |4=>4 |167=>265 |5=>5 |53=>98 |175=>266 |46=>116 |168=>268 |37=>56 |0=>0 |210=>337 |21=>21 |127=>92 |145=>352 |143=>350 |171=>257 |173=>260 |212=>329 |51=>155 |20=>20 |213=>330 |232=>358 |233=>359 |80=>66 |n=>n,fun |15=>4 |16=>5 |17=>3 |18=>8 |19=>9 |n=>n⟩
theorem OA:Go.Proofs.LaysC.n174 Tryz.prog shfC174_ren:={
 mixed:=by kernel_rfl
 f129:=Tryz.func256.trans (congrArg some (by kernel_rfl))
 f171:=Tryz.func264.trans (congrArg some (by kernel_rfl))
 f174:=Tryz.func89.trans (congrArg some (by kernel_rfl))
 f205:=Tryz.func263.trans (congrArg some (by kernel_rfl))
 f243:=Tryz.func288.trans (congrArg some (by kernel_rfl))
 f245:=Tryz.func130.trans (congrArg some (by kernel_rfl))
 f246:=Tryz.func122.trans (congrArg some (by kernel_rfl))
 f247:=Tryz.func129.trans (congrArg some (by kernel_rfl))
 f279:=Tryz.func198.trans (congrArg some (by kernel_rfl))
 f280:=Tryz.func199.trans (congrArg some (by kernel_rfl))
 f281:=Tryz.func200.trans (congrArg some (by kernel_rfl))
 f282:=Tryz.func201.trans (congrArg some (by kernel_rfl))
 f283:=Tryz.func190.trans (congrArg some (by kernel_rfl))
 f284:=Tryz.func191.trans (congrArg some (by kernel_rfl))
 f285:=Tryz.func192.trans (congrArg some (by kernel_rfl))
 f286:=Tryz.func193.trans (congrArg some (by kernel_rfl))
 f287:=Tryz.func197.trans (congrArg some (by kernel_rfl))
 f316:=Tryz.func207.trans (congrArg some (by kernel_rfl))
 f317:=Tryz.func255.trans (congrArg some (by kernel_rfl))
 f318:=Tryz.func257.trans (congrArg some (by kernel_rfl))
 f319:=Tryz.func258.trans (congrArg some (by kernel_rfl))
 f320:=Tryz.func259.trans (congrArg some (by kernel_rfl))
 f321:=Tryz.func261.trans (congrArg some (by kernel_rfl))
 f322:=Tryz.func262.trans (congrArg some (by kernel_rfl))
 f337:=Tryz.func286.trans (congrArg some (by kernel_rfl))
 f338:=Tryz.func287.trans (congrArg some (by kernel_rfl))
 t0:=Tryz.underlying0
 a0:=Tryz.isAgg0
 z0:=Tryz.sizeOf0
 v0:=Tryz.zeroValue0
 t2:=Tryz.underlying2
 a2:=Tryz.isAgg2
 z2:=Tryz.sizeOf2
 v2:=Tryz.zeroValue2
 t3:=Tryz.underlying3
 a3:=Tryz.isAgg3
 z3:=Tryz.sizeOf3
 v3:=Tryz.zeroValue3
 t4:=Tryz.underlying4
 a4:=Tryz.isAgg4
 z4:=Tryz.sizeOf4
 v4:=Tryz.zeroValue4
 t5:=Tryz.underlying5
 a5:=Tryz.isAgg5
 z5:=Tryz.sizeOf5
 v5:=Tryz.zeroValue5
 t9:=Tryz.underlying9
 a9:=Tryz.isAgg9
 z9:=Tryz.sizeOf9
 v9:=Tryz.zeroValue9
 t20:=Tryz.underlying20
 a20:=Tryz.isAgg20
 z20:=Tryz.sizeOf20
 v20:=Tryz.zeroValue20
 t21:=Tryz.underlying21
 a21:=Tryz.isAgg21
 z21:=Tryz.sizeOf21
 v21:=Tryz.zeroValue21
 t37:=Tryz.underlying56
 a37:=Tryz.isAgg56
 z37:=Tryz.sizeOf56
 v37:=Tryz.zeroValue56
 t46:=Tryz.underlying116
 a46:=Tryz.isAgg116
 z46:=Tryz.sizeOf116
 v46:=Tryz.zeroValue116
 t51:=Tryz.underlying155
 a51:=Tryz.isAgg155
 z51:=Tryz.sizeOf155
 v51:=Tryz.zeroValue155
 t53:=Tryz.underlying98
 a53:=Tryz.isAgg98
 z53:=Tryz.sizeOf98
 v53:=Tryz.zeroValue98
 t75:=Tryz.underlying62
 a75:=Tryz.isAgg62
 z75:=Tryz.sizeOf62
 v75:=Tryz.zeroValue62
 t85:=Tryz.underlying158
 a85:=Tryz.isAgg158
 z85:=Tryz.sizeOf158
 v85:=Tryz.zeroValue158
 t127:=Tryz.underlying92
 a127:=Tryz.isAgg92
 z127:=Tryz.sizeOf92
 v127:=Tryz.zeroValue92
 t143:=Tryz.underlying350
 a143:=Tryz.isAgg350
 z143:=Tryz.sizeOf350
 v143:=Tryz.zeroValue350
 t145:=Tryz.underlying352
 a145:=Tryz.isAgg352
 z145:=Tryz.sizeOf352
 v145:=Tryz.zeroValue352
 t167:=Tryz.underlying265
 a167:=Tryz.isAgg265
 z167:=Tryz.sizeOf265
 v167:=Tryz.zeroValue265
 t168:=Tryz.underlying268
 a168:=Tryz.isAgg268
 z168:=Tryz.sizeOf268
 v168:=Tryz.zeroValue268
 t171:=Tryz.underlying257
 a171:=Tryz.isAgg257
 z171:=Tryz.sizeOf257
 v171:=Tryz.zeroValue257
 t173:=Tryz.underlying260
 a173:=Tryz.isAgg260
 z173:=Tryz.sizeOf260
 v173:=Tryz.zeroValue260
 t175:=Tryz.underlying266
 a175:=Tryz.isAgg266
 z175:=Tryz.sizeOf266
 v175:=Tryz.zeroValue266
 t210:=Tryz.underlying337
 a210:=Tryz.isAgg337
 z210:=Tryz.sizeOf337
 v210:=Tryz.zeroValue337
 t212:=Tryz.underlying329
 a212:=Tryz.isAgg329
 z212:=Tryz.sizeOf329
 v212:=Tryz.zeroValue329
 t213:=Tryz.underlying330
 a213:=Tryz.isAgg330
 z213:=Tryz.sizeOf330
 t232:=Tryz.underlying358
 a232:=Tryz.isAgg358
 z232:=Tryz.sizeOf358
 v232:=Tryz.zeroValue358
 t233:=Tryz.underlying359
 a233:=Tryz.isAgg359
 z233:=Tryz.sizeOf359
 v233:=Tryz.zeroValue359
 g15:=by kernel_rfl
 g16:=by kernel_rfl
 g17:=by kernel_rfl
 g18:=by kernel_rfl
 g19:=by kernel_rfl
 t80:=Tryz.underlying66
 a80:=Tryz.isAgg66
 z80:=Tryz.sizeOf66
 v80:=Tryz.zeroValue66
 i0:=by kernel_rfl
 i2:=by kernel_rfl
 i3:=by kernel_rfl
 i4:=by kernel_rfl
 i5:=by kernel_rfl
 i9:=by kernel_rfl
 i20:=by kernel_rfl
 i21:=by kernel_rfl
 i37:=by kernel_rfl
 i46:=by kernel_rfl
 i51:=by kernel_rfl
 i53:=by kernel_rfl
 i75:=by kernel_rfl
 i80:=by kernel_rfl
 i85:=by kernel_rfl
 i127:=by kernel_rfl
 i143:=by kernel_rfl
 i145:=by kernel_rfl
 i167:=by kernel_rfl
 i168:=by kernel_rfl
 i171:=by kernel_rfl
 i173:=by kernel_rfl
 i175:=by kernel_rfl
 i210:=by kernel_rfl
 i212:=by kernel_rfl
 i232:=by kernel_rfl
 i233:=by kernel_rfl
 m15:=by kernel_rfl
 m16:=by kernel_rfl
 m17:=by kernel_rfl
 m18:=by kernel_rfl
 m19:=by kernel_rfl
 c0:=by kernel_rfl
 c2:=by kernel_rfl
 c3:=by kernel_rfl
 c4:=by kernel_rfl
 c5:=by kernel_rfl
 c9:=by kernel_rfl
 c20:=by kernel_rfl
 c21:=by kernel_rfl
 c37:=by kernel_rfl
 c46:=by kernel_rfl
 c51:=by kernel_rfl
 c53:=by kernel_rfl
 c75:=by kernel_rfl
 c80:=by kernel_rfl
 c85:=by kernel_rfl
 c127:=by kernel_rfl
 c143:=by kernel_rfl
 c145:=by kernel_rfl
 c167:=by kernel_rfl
 c168:=by kernel_rfl
 c171:=by kernel_rfl
 c173:=by kernel_rfl
 c175:=by kernel_rfl
 c210:=by kernel_rfl
 c212:=by kernel_rfl
 c213:=by kernel_rfl
 c232:=by kernel_rfl
 c233:=by kernel_rfl}
def shf138_ren:Go.Shelf.Ren:=⟨fun |138=>10 |195=>24 |218=>25 |143=>26 |219=>43 |217=>58 |225=>59 |224=>60 |267=>61 |266=>86 |314=>87 |n=>n,fun |9=>9 |3=>3 |4=>4 |5=>5 |0=>0 |46=>116 |146=>156 |51=>155 |n=>n,fun |1=>0 |n=>n⟩
theorem Ap0:Go.Proofs.Lays.n138 Tryz.prog shf138_ren:={
 mixed:=by kernel_rfl
 f138:=Tryz.func10.trans (congrArg some (by kernel_rfl))
 f143:=Tryz.func26.trans (congrArg some (by kernel_rfl))
 f195:=Tryz.func24.trans (congrArg some (by kernel_rfl))
 f217:=Tryz.func58.trans (congrArg some (by kernel_rfl))
 f218:=Tryz.func25.trans (congrArg some (by kernel_rfl))
 f219:=Tryz.func43.trans (congrArg some (by kernel_rfl))
 f224:=Tryz.func60.trans (congrArg some (by kernel_rfl))
 f225:=Tryz.func59.trans (congrArg some (by kernel_rfl))
 f266:=Tryz.func86.trans (congrArg some (by kernel_rfl))
 f267:=Tryz.func61.trans (congrArg some (by kernel_rfl))
 f314:=Tryz.func87.trans (congrArg some (by kernel_rfl))
 t0:=Tryz.underlying0
 a0:=Tryz.isAgg0
 z0:=Tryz.sizeOf0
 v0:=Tryz.zeroValue0
 t3:=Tryz.underlying3
 a3:=Tryz.isAgg3
 z3:=Tryz.sizeOf3
 v3:=Tryz.zeroValue3
 t4:=Tryz.underlying4
 a4:=Tryz.isAgg4
 z4:=Tryz.sizeOf4
 v4:=Tryz.zeroValue4
 t5:=Tryz.underlying5
 a5:=Tryz.isAgg5
 z5:=Tryz.sizeOf5
 v5:=Tryz.zeroValue5
 t9:=Tryz.underlying9
 a9:=Tryz.isAgg9
 z9:=Tryz.sizeOf9
 v9:=Tryz.zeroValue9
 t46:=Tryz.underlying116
 a46:=Tryz.isAgg116
 z46:=Tryz.sizeOf116
 v46:=Tryz.zeroValue116
 t51:=Tryz.underlying155
 a51:=Tryz.isAgg155
 z51:=Tryz.sizeOf155
 v51:=Tryz.zeroValue155
 t146:=Tryz.underlying156
 a146:=Tryz.isAgg156
 z146:=Tryz.sizeOf156
 v146:=Tryz.zeroValue156
 g1:=by kernel_rfl}
def shf99_ren:Go.Shelf.Ren:=⟨fun |99=>13 |206=>28 |n=>n,fun |9=>9 |4=>4 |3=>3 |n=>n,fun |n=>n⟩
theorem Aui:Go.Proofs.Lays.n99 Tryz.prog shf99_ren:={
 mixed:=by kernel_rfl
 f99:=Tryz.func13.trans (congrArg some (by kernel_rfl))
 f206:=Tryz.func28.trans (congrArg some (by kernel_rfl))
 t3:=Tryz.underlying3
 a3:=Tryz.isAgg3
 z3:=Tryz.sizeOf3
 v3:=Tryz.zeroValue3
 t4:=Tryz.underlying4
 a4:=Tryz.isAgg4
 z4:=Tryz.sizeOf4
 v4:=Tryz.zeroValue4
 t9:=Tryz.underlying9
 a9:=Tryz.isAgg9
 z9:=Tryz.sizeOf9
 v9:=Tryz.zeroValue9}
def shf146_ren:Go.Shelf.Ren:=⟨fun |146=>11 |221=>27 |268=>44 |138=>10 |143=>26 |195=>24 |197=>62 |218=>25 |219=>43 |260=>88 |217=>58 |225=>59 |224=>60 |267=>61 |266=>86 |314=>87 |n=>n,fun |9=>9 |31=>29 |3=>3 |4=>4 |0=>0 |105=>117 |21=>21 |5=>5 |46=>116 |119=>203 |139=>206 |138=>205 |146=>156 |51=>155 |n=>n,fun |1=>0 |3=>1 |4=>2 |n=>n⟩
theorem Ap1:Go.Proofs.Lays.n146 Tryz.prog shf146_ren:={
 mixed:=by kernel_rfl
 f138:=Tryz.func10.trans (congrArg some (by kernel_rfl))
 f143:=Tryz.func26.trans (congrArg some (by kernel_rfl))
 f146:=Tryz.func11.trans (congrArg some (by kernel_rfl))
 f195:=Tryz.func24.trans (congrArg some (by kernel_rfl))
 f197:=Tryz.func62.trans (congrArg some (by kernel_rfl))
 f217:=Tryz.func58.trans (congrArg some (by kernel_rfl))
 f218:=Tryz.func25.trans (congrArg some (by kernel_rfl))
 f219:=Tryz.func43.trans (congrArg some (by kernel_rfl))
 f221:=Tryz.func27.trans (congrArg some (by kernel_rfl))
 f224:=Tryz.func60.trans (congrArg some (by kernel_rfl))
 f225:=Tryz.func59.trans (congrArg some (by kernel_rfl))
 f260:=Tryz.func88.trans (congrArg some (by kernel_rfl))
 f266:=Tryz.func86.trans (congrArg some (by kernel_rfl))
 f267:=Tryz.func61.trans (congrArg some (by kernel_rfl))
 f268:=Tryz.func44.trans (congrArg some (by kernel_rfl))
 f314:=Tryz.func87.trans (congrArg some (by kernel_rfl))
 t0:=Tryz.underlying0
 a0:=Tryz.isAgg0
 z0:=Tryz.sizeOf0
 v0:=Tryz.zeroValue0
 t3:=Tryz.underlying3
 a3:=Tryz.isAgg3
 z3:=Tryz.sizeOf3
 v3:=Tryz.zeroValue3
 t4:=Tryz.underlying4
 a4:=Tryz.isAgg4
 z4:=Tryz.sizeOf4
 v4:=Tryz.zeroValue4
 t5:=Tryz.underlying5
 a5:=Tryz.isAgg5
 z5:=Tryz.sizeOf5
 v5:=Tryz.zeroValue5
 t9:=Tryz.underlying9
 a9:=Tryz.isAgg9
 z9:=Tryz.sizeOf9
 v9:=Tryz.zeroValue9
 t21:=Tryz.underlying21
 a21:=Tryz.isAgg21
 z21:=Tryz.sizeOf21
 v21:=Tryz.zeroValue21
 t31:=Tryz.underlying29
 a31:=Tryz.isAgg29
 z31:=Tryz.sizeOf29
 v31:=Tryz.zeroValue29
 t46:=Tryz.underlying116
 a46:=Tryz.isAgg116
 z46:=Tryz.sizeOf116
 v46:=Tryz.zeroValue116
 t51:=Tryz.underlying155
 a51:=Tryz.isAgg155
 z51:=Tryz.sizeOf155
 v51:=Tryz.zeroValue155
 t105:=Tryz.underlying117
 a105:=Tryz.isAgg117
 z105:=Tryz.sizeOf117
 v105:=Tryz.zeroValue117
 t119:=Tryz.underlying203
 a119:=Tryz.isAgg203
 z119:=Tryz.sizeOf203
 t138:=Tryz.underlying205
 a138:=Tryz.isAgg205
 z138:=Tryz.sizeOf205
 v138:=Tryz.zeroValue205
 t139:=Tryz.underlying206
 a139:=Tryz.isAgg206
 z139:=Tryz.sizeOf206
 v139:=Tryz.zeroValue206
 t146:=Tryz.underlying156
 a146:=Tryz.isAgg156
 z146:=Tryz.sizeOf156
 v146:=Tryz.zeroValue156
 g1:=by kernel_rfl
 g3:=by kernel_rfl
 g4:=by kernel_rfl}
def splitL(a:UInt8):List UInt8->List (List UInt8)
 |[]=>[[]]
 |c::cs=>if c=a then []::splitL a cs else(match splitL a cs with
  |[]=>[[c]]
  |r::rs=>(c::r)::rs)
theorem Dy(a:UInt8):∀l:List UInt8,∃r rs,splitL a l=r::rs
 |[]=>⟨[],[],rfl⟩
 | c::cs=>by
  obtain⟨r,rs,e⟩:=Dy a cs
  unfold splitL
  split
  ·exact⟨[],_,rfl⟩
  ·rw[e]
   exact⟨c::r,rs,rfl⟩
theorem BX(a:UInt8)(cs:List UInt8):splitL a (a::cs)=[]::splitL a cs:=by
 rw[splitL,if_pos rfl]
theorem BY{a c:UInt8}(h:c≠a){cs r:List UInt8}{rs:List (List UInt8)}(e:splitL a cs=r::rs):splitL a (c::cs)=(c::r)::rs:=by
 rw[splitL,if_neg h,e]
theorem Ea(a:UInt8)(y:List UInt8):∀x:List UInt8,splitL a (x++a::y)=splitL a x++splitL a y
 |[]=>BX a y
 | c::cs=>by
  have ih:=Ea a y cs
  by_cases h:c=a
  ·subst h
   rw[List.cons_append,BX,BX,ih]
   rfl
  ·obtain⟨r,rs,e⟩:=Dy a cs
   rw[e]at ih
   rw[List.cons_append,BY h ih,BY h e]
   rfl
def wordsL(r:List UInt8):List (List UInt8):=(splitL 32 r).filter (fun w=>!w.isEmpty)
theorem Qx(r:List UInt8):wordsL (32::r)=wordsL r:=by
 unfold wordsL
 rw[BX]
 rfl
theorem SQ(r:List UInt8):wordsL (r++[32])=wordsL r:=by
 unfold wordsL
 rw[Ea,List.filter_append]
 have:(splitL 32 []).filter (fun w=>!w.isEmpty)=[]:=rfl
 rw[this,List.append_nil]
def EO:List UInt8->List UInt8
 |[]=>[]
 |c::cs=>if c=32 then 32::32::EO cs else c::EO cs
theorem SR(cs:List UInt8):EO (32::cs)=32::32::EO cs:=by rw[EO,if_pos rfl]
theorem SU{c:UInt8}(h:c≠32)(cs:List UInt8):EO (c::cs)=c::EO cs:=by rw[EO,if_neg h]
theorem Ni:∀r:List UInt8,∃w x y,splitL 32 r=w::x/\splitL 32 (EO r)=w::y/\x.filter (fun w=>!w.isEmpty)=y.filter (fun w=>!w.isEmpty)
 |[]=>⟨[],[],[],rfl,rfl,rfl⟩
 | c::cs=>by
  obtain⟨w,x,y,e1,e2,e3⟩:=Ni cs
  by_cases h:c=32
  ·subst h
   rw[SR,BX,BX,BX,e1,e2]
   refine⟨[],_,_,rfl,rfl,?_⟩
   show List.filter (fun w:List UInt8=>!w.isEmpty) (w::x)=List.filter (fun w:List UInt8=>!w.isEmpty) (w::y)
   rw[List.filter_cons,List.filter_cons,e3]
  ·rw[SU h,BY h e1,BY h e2]
   exact⟨_,_,_,rfl,rfl,e3⟩
theorem Nj(r:List UInt8):wordsL (EO r)=wordsL r:=by
 obtain⟨w,x,y,e1,e2,e3⟩:=Ni r
 unfold wordsL
 rw[e1,e2,List.filter_cons,List.filter_cons,e3]
section
variable {σ:Type} (ans:σ->List UInt8->List (List UInt8)->List UInt8×σ)
def Ac1(w:List UInt8):Bool:=w.head? ==some 35
def CH(s:σ)(r:List UInt8):List UInt8×σ:=match wordsL r with
 |[]=>([],s)
 |w::ws=>if Ac1 w then([],s)else((ans s w ws).1++[10],(ans s w ws).2)
def runA:σ->List (List UInt8)->List UInt8
 |_,[]=>[]
 |s,r::rs=>(CH ans s r).1++runA (CH ans s r).2 rs
def Auj:σ->List (List UInt8)->σ
 |s,[]=>s
 |s,r::rs=>Auj (CH ans s r).2 rs
theorem Lh(y:List (List UInt8)):∀(x:List (List UInt8)) (s:σ),runA ans s (x++y)=runA ans s x++runA ans (Auj ans s x) y
 |[],_=>rfl
 |r::rs,s=>by
  show(CH ans s r).1++runA ans _ (rs++y)=((CH ans s r).1++runA ans _ rs)++_
  rw[Lh y rs,List.append_assoc]
  rfl
theorem SV(s:σ)(x y:List UInt8):∃z,runA ans s (splitL 10 (x++10::y))=runA ans s (splitL 10 x)++z:=⟨_,by rw[Ea,Lh]⟩
theorem Jd{s:σ}{r r':List UInt8}(h:wordsL r=wordsL r'):CH ans s r=CH ans s r':=by unfold CH;rw[h]
end
def Eb:List UInt8:=[35,32,115,116,101,112,32,49]
def Cd:List UInt8->List UInt8
 |[]=>[]
 |c::cs=>if c=32 then 32::32::Cd cs else if c=10 then 32::10::10::(Eb++10::32::Cd cs)else c::Cd cs
def Fv:List (List UInt8)->List (List UInt8)
 |[]=>[]
 |x::xs=>(32::x)::xs
def F9:List (List UInt8)->List (List UInt8)
 |[]=>[]
 |[r]=>[EO r]
 |r::q::rs=>(EO r++[32])::[]::Eb::Fv (F9 (q::rs))
theorem SX(c:UInt8)(hc:c≠32)(r:List UInt8)(rs:List (List UInt8)):F9 ((c::r)::rs)=(match F9 (r::rs)with
    |[]=>[]
    |x::xs=>(c::x)::xs):=by
 cases rs with
 |nil=>show [EO (c::r)]=_;rw[SU hc];rfl
 |cons q rs=>show(EO (c::r)++[32])::_=_;rw[SU hc];rfl
theorem Qy(r:List UInt8)(rs:List (List UInt8)):F9 ((32::r)::rs)=Fv (Fv (F9 (r::rs))):=by
 cases rs with
 |nil=>show [EO (32::r)]=_;rw[SR];rfl
 |cons q rs=>show(EO (32::r)++[32])::_=_;rw[SR];rfl
theorem SY(r:List UInt8)(rs:List (List UInt8)):∃x xs,F9 (r::rs)=x::xs:=by
 cases rs with
 |nil=>exact⟨_,_,rfl⟩
 |cons q rs=>exact⟨_,_,rfl⟩
theorem Fw{l:List UInt8}:splitL 10 (32::l)=Fv (splitL 10 l):=by
 obtain⟨r,rs,e⟩:=Dy 10 l
 rw[BY (by decide) e,e]
 rfl
theorem Li:∀l:List UInt8,splitL 10 (Cd l)=F9 (splitL 10 l)
 |[]=>rfl
 | c::cs=>by
  have ih:=Li cs
  obtain⟨r,rs,e⟩:=Dy 10 cs
  by_cases h1:c=32
  ·subst h1
   rw[Cd,if_pos rfl,Fw,Fw,ih,BY (by decide) e,e,Qy]
  by_cases h2:c=10
  ·subst h2
   rw[Cd,if_neg (by decide),if_pos rfl,BX,e]
   show _=(EO []++[32])::[]::Eb::Fv (F9 (r::rs))
   rw[<-e,<-ih]
   have k:splitL 10 (Eb++10::32::Cd cs)=Eb::Fv (splitL 10 (Cd cs)):=by
    rw[Ea,Fw]
    rfl
   rw[BY (by decide) (BX 10 _),BX,k]
   rfl
  ·rw[Cd,if_neg h1,if_neg h2]
   obtain⟨x,xs,k⟩:=SY r rs
   rw[e,k]at ih
   rw[BY h2 ih,BY h2 e,SX c h1,k]
theorem SZ{σ:Type}(ans:σ->List UInt8->List (List UInt8)->List UInt8×σ)(s:σ):∀x,runA ans s (Fv x)=runA ans s x
 |[]=>rfl
 |x::xs=>by
  show(CH ans s (32::x)).1++runA ans (CH ans s (32::x)).2 xs=_
  rw[Jd ans (Qx x)]
  rfl
theorem Nk{σ:Type}(ans:σ->List UInt8->List (List UInt8)->List UInt8×σ):∀(rs:List (List UInt8)) (s:σ),runA ans s (F9 rs)=runA ans s rs
 |[],_=>rfl
 |[r],s=>by
  show(CH ans s (EO r)).1++[]=(CH ans s r).1++[]
  rw[Jd ans (Nj r)]
 |r::q::rs,s=>by
  have h:CH ans s (EO r++[32])=CH ans s r:=Jd ans ((SQ _).trans (Nj r))
  have h0:∀s,CH ans s []=([],s):=fun _=>rfl
  have h1:∀s,CH ans s Eb=([],s):=fun _=>rfl
  show(CH ans s (EO r++[32])).1++runA ans (CH ans s (EO r++[32])).2 ([]::Eb::Fv (F9 (q::rs)))=(CH ans s r).1++runA ans (CH ans s r).2 (q::rs)
  rw[h]
  show _++((CH ans _ []).1++((CH ans (CH ans _ []).2 Eb).1++runA ans (CH ans (CH ans _ []).2 Eb).2 (Fv (F9 (q::rs)))))=_
  rw[h0,h1,List.nil_append,List.nil_append,SZ,Nk ans (q::rs)]
theorem Ac2{σ:Type}(ans:σ->List UInt8->List (List UInt8)->List UInt8×σ)(s:σ)(l:List UInt8):runA ans s (splitL 10 (Cd l))=runA ans s (splitL 10 l):=by
 rw[Li,Nk]
theorem Nl(c:UInt8):∀s:List UInt8,Lib.split s [c]=splitL c s
 |[]=>by
  unfold Lib.split
  rw[Lib.count_miss (by simp[Lib.index])]
  rfl
 | b::l=>by
  have ih:=Nl c l
  unfold Lib.split at ih ⊢
  by_cases h:b=c
  ·subst h
   have hix:Lib.index (b::l) [b]=0:=by rw[Lib.index];simp[List.isPrefixOf]
   rw[Lib.count_cons_eq,Nat.add_comm,Lib.splitK,if_neg (by rw[hix];decide),hix,BX,<-ih]
   rfl
  ·have hp:([c]:List UInt8).isPrefixOf (b::l)=false:=by simp[List.isPrefixOf,Ne.symm h]
   have hix:Lib.index (b::l) [c]=if Lib.index l [c]==-1 then-1 else Lib.index l [c]+1:=by rw[Lib.index,hp];simp
   rw[Lib.count_cons_ne b c l h]
   by_cases hm:Lib.index l [c]=-1
   ·rw[Lib.count_miss hm]at ih ⊢
    exact(BY h ih.symm).symm
   ·have hge:=Lib.index_ge l [c]
    obtain⟨j,hj⟩:∃j:Nat,Lib.index l [c]=j:=⟨(Lib.index l [c]).toNat,by omega⟩
    have hix':Lib.index (b::l) [c]=((j+1:Nat):Int):=by rw[hix,if_neg (fun e=>hm (beq_iff_eq.1 e)),hj];omega
    rw[Lib.count_hit (by simp) hj,Nat.add_comm]at ih ⊢
    rw[Lib.splitK,if_neg (fun e=>hm (beq_iff_eq.1 e)),hj]at ih
    rw[Lib.splitK,if_neg (fun e=>by have:=beq_iff_eq.1 e;omega),hix']
    exact(BY h ih.symm).symm
theorem S0(c:UInt8)(s:ByteArray):(Lib.splitB ⟨#[c]⟩ 0 (Lib.countB s ⟨#[c]⟩) s).map (·.data.toList)=splitL c s.data.toList:=by
 rw[Lib.splitB_data]
 exact Nl c s.data.toList
theorem Ajy(s:ByteArray):(⟨s.data.toList.toArray⟩:ByteArray)=s:=by
 cases s
 rfl
def splitB(c:UInt8)(s:ByteArray):List ByteArray:=(splitL c s.data.toList).map fun l=>⟨l.toArray⟩
theorem Nm(c:UInt8)(s:ByteArray):Lib.splitB ⟨#[c]⟩ 0 (Lib.countB s ⟨#[c]⟩) s=splitB c s:=by
 unfold splitB
 rw[<-S0,List.map_map]
 have e:((fun l:List UInt8=>(⟨l.toArray⟩:ByteArray))∘fun x:ByteArray=>x.data.toList)=id:=funext Ajy
 rw[e,List.map_id]
theorem Nn(c:UInt8)(s:ByteArray):Lib.countB s ⟨#[c]⟩=s.data.toList.count c:=Lib.count_one c s.data.toList
theorem GR(c:UInt8)(s:ByteArray):(splitB c s).length=s.data.toList.count c+1:=by
 rw[<-Nm,Lib.splitB_all ⟨#[c]⟩ (Nat.le_refl 1) 0 _ s rfl,Nn]
def Yg(s:List UInt8):Option Int:=match Lib.parseIntB 64 s with
 | .ok v=>if Lib.itoa v=s then some v else none
 |_=>none
open Go.RowKit
structure SW(w:World):Prop where
 mx:∃m,w.cell? ⟨0,0,none⟩=some (.int .i64 m)
 sy:∃t p u f,w.heap[4]? =some (.cells #[.iface t p] u f)
 rg:∃t p,w.cell? ⟨5,0,none⟩=some (.iface t p)
 tab:∃t f,w.heap[3]? =some (.cells (Lib.pow10Tab.map fun z=>Value.int .u64 z).toArray t f)
theorem SW.below{w w':World}(h:SW w)(k:Below w.heap.size w w'):SW w':=by
 obtain⟨m,hm⟩:=h.mx
 obtain⟨t,p,hs⟩:=h.sy
 obtain⟨u,q,hr⟩:=h.rg
 obtain⟨x,f,ht⟩:=h.tab
 exact⟨⟨m,(k.cell (World.block_lt_of_cell? _ _ hm)).trans hm⟩,⟨t,p,hs.imp fun _=>Exists.imp fun _ e=>(k.block 4 (Array.getElem?_eq_some_iff.1 e).1).trans e⟩,⟨u,q,(k.cell (World.block_lt_of_cell? _ _ hr)).trans hr⟩,⟨x,f,(k.block 3 (Array.getElem?_eq_some_iff.1 ht).1).trans ht⟩⟩
theorem Ac3{P:Program}{w:World}{name:String}{g:Nat}{cs:Array Value}(hg:P.globalNamed name=some g)(h:∃t f,w.heap[g]? =some (.cells cs t f)):w.var? P name=some cs:=by
 obtain⟨t,f,h⟩:=h
 unfold World.var?
 rw[hg,Option.bind_some,h]
theorem S6(w:World)(q:Nat)(os:Array Obj):Below w.heap.size w (Sort.grow (w.drewN q) os):=
 ⟨rfl,rfl,rfl,by show w.heap.size<=(w.heap++os).size;simp,fun k hk=>by show(w.heap++os)[k]? =w.heap[k]?;rw[Array.getElem?_append_left hk]⟩
theorem Anu(c:UInt8)(s:ByteArray)(w:World)(hw:SW w)(hs:s.size<4294967281):
    Calls Tryz.prog 11 #[.string s,.string ⟨#[c]⟩] w fun e w'=>e=.returned (.slice (some ⟨w.heap.size,0,none⟩) (splitB c s).length (splitB c s).length)/\w'=w.alloc (.cells ((splitB c s).map Value.string).toArray 9):=by
 obtain⟨m,hm⟩:=hw.mx
 have h:=Any.strings_Split Ap1 (by kernel_rfl) s ⟨#[c]⟩ m w hs hm (Nat.le_refl 1)
 rw[Nm,Nn,<-GR]at h
 exact h
theorem Ajz(c:UInt8)(s:ByteArray)(w:World):Calls Tryz.prog 10 #[.string s,.string ⟨#[c]⟩] w fun e w'=>e=.returned (.int .i64 (s.data.toList.count c:Nat))/\w'=w:=Any.strings_Count_one Ap0 s c w
theorem Ac4(s p:ByteArray)(w:World):Calls Tryz.prog 13 #[.string s,.string p] w fun e w'=>e=.returned (.bool (p.data.toList.isPrefixOf s.data.toList))/\w'=w:=Any.strings_HasPrefix Aui s p w
theorem S7(n:Int)(h0:-9223372036854775808<=n)(h1:n<=9223372036854775807)(w:World)(hw:SW w):
    Calls Tryz.prog 82 #[.int .i64 n,.int .i64 10] w fun e w'=>e=.returned (.string ⟨(Lib.itoa n).toArray⟩)/\Below w.heap.size w w':=by
 refine(Any.strconv_FormatInt_10 Ajx n h0 h1 w (Ac3 (g:=3) (by kernel_rfl) hw.tab)).mono ?_
 rintro e w' ⟨he,k,os,rfl⟩
 exact⟨he,S6 w k os⟩
theorem Ac5(g o c:Nat)(xs:List ByteArray)(w:World)(hc:∀(j:Nat) x,xs[j]? =some x->w.cell? ⟨g,o+j,none⟩=some (.string x))(hg:g<w.heap.size)(hN:xs.length<=140737488355328)(hcap:xs.length<=c)(hlen:(Lib.join (xs.map (·.data.toList)) [32]).length<=140737488355328):
    Calls Tryz.prog 83 #[.slice (some ⟨g,o,none⟩) xs.length c,.string ⟨#[32]⟩] w fun e w'=>e=.returned (.string ⟨(Lib.join (xs.map (·.data.toList)) [32]).toArray⟩)/\Below w.heap.size w w':=Any.strings_Join Ac0 shfX156 g o c xs ⟨#[32]⟩ w hc hg hN hcap hlen
theorem Aj0(s:ByteArray)(w:World)(hw:SW w)(hs:s.size<=100000):
    (∃v,Lib.parseIntB 64 s.data.toList=.ok v/\Calls Tryz.prog 89 #[.string s,.int .i64 10,.int .i64 64] w fun e w'=>e=.returned (.tuple #[.int .i64 v,.nilIface])/\Below w.heap.size w w')∨
    ((∀v,Lib.parseIntB 64 s.data.toList≠.ok v)/\Calls Tryz.prog 89 #[.string s,.int .i64 10,.int .i64 64] w fun e w'=>∃n t p,e=.returned (.tuple #[.int .i64 n,.iface t p])/\Below w.heap.size w w'):=by
 rcases h:Lib.parseIntB 64 s.data.toList with v |_ |_
 ·refine .inl ⟨v,rfl,(Any.strconv_ParseInt_10_at64_ok OA s (by omega) v h w).mono ?_⟩
  rintro e w' ⟨he,rfl |⟨t,rfl⟩⟩
  ·exact⟨he,Below.refl _ _⟩
  ·exact⟨he,Lib.bytesWorld_below _ _ _⟩
 ·obtain⟨t,p,hv⟩:=hw.sy
  refine .inr ⟨fun v=>nofun,(Any.strconv_ParseInt_10_at64_syntax_var OA s (by omega) h t p w (Ac3 (g:=4) (by kernel_rfl) hv)).mono ?_⟩
  rintro e w' ⟨N,he,_,_,hb⟩
  exact⟨_,_,_,he,hb⟩
 ·obtain⟨t,p,hv⟩:=hw.rg
  refine .inr ⟨fun v=>nofun,(Any.strconv_ParseInt_10_at64_range OA s (by omega) h (.iface t p) w hv (.inr ⟨t,p,rfl⟩)).mono ?_⟩
  rintro e w' ⟨N,he,_,_,hb⟩
  exact⟨_,_,_,he,hb⟩
set_option maxRecDepth 100000
set_option maxHeartbeats 20000000
theorem Lj:(Tryz.prog.info? 9).map (fun i=>(i.zero,i.size,i.bytes))=some (some (.string ⟨#[]⟩),1,16):=by kernel_rfl
theorem Cy(w:World)(x:Value)(t:TypeId):∀j u,[x][j]? =some u->(w.alloc (.cells #[x] t)).cell? ((⟨w.heap.size,0,none⟩:Addr).add j)=some u:=by
 intro j u hj
 match j,hj with
 |0,hj=>simp at hj;subst hj;simp[Addr.add]
 |(j+1),hj=>simp at hj
def FM(B:Nat)(w:World)(v:Value)(l:List ByteArray):Prop:=w.ownsRow B 9 1 v l.length (l.map Value.string)
theorem FM.below{B:Nat}{w w':World}{v:Value}{l:List ByteArray}(h:FM B w v l)(hb:Below w.heap.size w w'):FM B w' v l:=by
 refine⟨h.1,?_⟩
 rcases h.2 with hn |⟨g,cap,cur,rfl,hg,hgg,rest⟩
 ·exact .inl hn
 ·exact .inr ⟨g,cap,cur,rfl,hg,by rw[hb.block g (Array.getElem?_eq_some_iff.1 hgg).1];exact hgg,rest⟩
def CE(w:World)(v:Value)(l:List ByteArray):Prop:=
 ∃(a:Option Addr) (c:Nat),v=.slice a l.length c/\l.length<=c/\(l≠[]->∃g o:Nat,a=some ⟨g,o,none⟩/\g<w.heap.size/\∀i (h:i<l.length),w.cell? ⟨g,o+i,none⟩=some (.string l[i]))
theorem CE.below{w w':World}{v:Value}{l:List ByteArray}(h:CE w v l)(hb:Below w.heap.size w w'):CE w' v l:=by
 obtain⟨a,c,rfl,hc,k⟩:=h
 refine⟨a,c,rfl,hc,fun hl=>?_⟩
 obtain⟨g,o,rfl,hg,hcell⟩:=k hl
 exact⟨g,o,rfl,Nat.lt_of_lt_of_le hg hb.size,fun i hi=>(hb.cell (p:=⟨g,o+i,none⟩) hg).trans (hcell i hi)⟩
def OB(s:ByteArray):List ByteArray:=(splitB 32 s).filter fun x=>decide (x.size≠0)
theorem Yh(s:ByteArray)(w:World)(hw:SW w)(hs:s.size<=100000):
    Calls Tryz.prog 12 #[.string s] w fun e w'=>∃v,e=.returned v/\FM w.heap.size w' v (OB s)/\Below w.heap.size w w':=by
 obtain⟨i0,hi,hz0,hz1,hz2⟩:=info_parts Lj
 have hc:=Anu 32 s w hw (by omega)
 clear hw
 have hlen:(splitB 32 s).length<=100001:=by
  rw[GR]
  have:s.data.toList.count 32<=s.data.toList.length:=List.count_le_length
  have e:s.data.toList.length=s.size:=rfl
  omega
 unfold OB
 generalize splitB 32 s=l at hc hlen ⊢
 obtain⟨n,hn⟩:∃n,n=l.length:=⟨_,rfl⟩
 rw[<-hn]at hc hlen
 obtain⟨W,hW⟩:∃W,W=w.alloc (.cells (l.map Value.string).toArray 9):=⟨_,rfl⟩
 rw[<-hW]at hc
 have hsz:W.heap.size=w.heap.size+1:=by rw[hW];simp
 have hcell:Hid (∀i (h:i<l.length),W.cell? ⟨w.heap.size,i,none⟩=some (.string l[i])):=by
  intro i h
  rw[hW]
  simp[h]
 have hbW:Below w.heap.size w W:=by rw[hW];exact(Below.refl _ _).alloc (Nat.le_refl _) _
 have HN:Hid (n=l.length):=hn
 clear hn hW
 go_enter Tryz.func12,Tryz.ntmps12
 go_wp2_with (go_at_call 11;refine hc.mono ?_;rintro e w1 ⟨rfl,hw1⟩;rw[hw1];clear hw1 w1)
 go_loopw [3,9] (fun v i wr=>∃(k:Nat) (acc:List ByteArray),k<=n/\i=.int .i64 k/\Hid (acc=(l.take k).filter fun x=>decide (x.size≠0))/\acc.length<=k/\FM W.heap.size wr v acc/\Below W.heap.size W wr) (fun _ i _=>n-(intOf i).toNat)
 case atStart=>exact⟨0,[],by omega,rfl,rfl,Nat.le_refl _,World.ownsRow_nil _ _ _ _,Below.refl _ _⟩
 case round=>
  obtain⟨k,acc,hk,rfl,hacc,hal,hown,hnx⟩:=hrel
  have HO:Hid (FM W.heap.size wr u3 acc):=hown
  clear hown
  by_cases hkn:k<n
  ·have hkl:k<l.length:=by rw[<-HN.out];exact hkn
   obtain⟨p,hp⟩:∃p,p=l[k]'hkl:=⟨_,rfl⟩
   have c0:=(hnx.cell (p:=⟨w.heap.size,k,none⟩) (by show w.heap.size<W.heap.size;omega)).trans (hcell.out k hkl)
   rw[<-hp]at c0
   have hnext:Hid ((l.take (k+1)).filter (fun x=>decide (x.size≠0))=if p.size=0 then acc else acc++[p]):=by
    show _=_
    rw[List.take_add_one,List.getElem?_eq_getElem hkl,Option.toList_some,List.filter_append,<-hacc.out,<-hp]
    by_cases hh:p.size=0
    ·rw[if_pos hh,List.filter_cons,if_neg (by simpa using hh),List.filter_nil,List.append_nil]
    ·rw[if_neg hh,List.filter_cons,if_pos (decide_eq_true hh),List.filter_nil]
   clear hp
   by_cases h0:p.size=0
   ·obtain rfl:p=⟨#[]⟩:=ByteArray.ext (Array.eq_empty_of_size_eq_zero h0)
    go_wp2
    go_roundw
    case rel=>exact⟨k+1,acc,by omega,by go_num,by show acc=_;rw[hnext.out,if_pos h0],by omega,HO.out,hnx⟩
    case measure=>simp[intOf];omega
   ·have hne:p.toList.isEmpty=false:=Dw h0
    have hnx2:Hid (acc++[p]=(l.take (k+1)).filter fun x=>decide (x.size≠0)):=by show _=_;rw[hnext.out,if_neg h0]
    clear hnext
    have HN2:Hid ((acc++[p]).map Value.string=acc.map Value.string++[.string p]):=by show _=_;simp
    have HL2:Hid ((acc++[p]).length=acc.length+1):=by show _=_;simp
    generalize acc++[p]=acc' at hnx2 HN2 HL2
    have h1:=hnx.size
    go_wp2_with (at_builtin;refine wpList_append_own _ rfl (.tmp 15) (.tmp 17) 29 rfl W.heap.size 9 i0 (.string ⟨#[]⟩) 1 16 Tryz.underlying29 hi hz0 hz1 hz2 rfl (by decide) _ _ _ rfl (HO.out.alloc _) ⟨wr.heap.size,0,none⟩ 1 1 [.string p] rfl rfl (Cy _ _ _) (by intro u hu;simp at hu;subst hu;rfl) (by unfold maxLen;omega) (by omega) (by simp;omega) ?_;intro v3 w3 hown3 hgrow3 hnil3)
    have hbz:=(hnx.alloc hnx.size (.cells #[.string p] 9)).grown hgrow3 (by simp;omega) (fun j hj=>(World.ownsRow.lt HO.out j hj).1)
    clear hnil3 hgrow3
    go_roundw
    case rel=>exact⟨k+1,acc',by omega,by go_num,hnx2,by rw[HL2.out];omega,by unfold FM;rw[HL2.out,HN2.out];exact hown3,hbz⟩
    case measure=>simp[intOf];omega
  ·have hkn:k=n:=by omega
   subst hkn
   have hfin:Hid (acc=l.filter fun x=>decide (x.size≠0)):=by show _=_;rw[hacc.out,HN.out,List.take_length]
   go_wp2
   go_ret
   refine⟨_,rfl,?_,hbW.trans (hnx.mono (by omega))⟩
   rw[<-hfin.out]
   exact⟨HO.out.1,HO.out.2.imp id (fun⟨g,cap,cur,a,b,c⟩=>⟨g,cap,cur,a,by omega,c⟩)⟩
theorem Aj1{a b:ByteArray}(h:a≠b):(a.toList==b.toList)=false:=by
 rw[beq_eq_false_iff_ne]
 intro e
 rw[Lib.toList_data,Lib.toList_data]at e
 exact h (ByteArray.ext (Array.toList_inj.1 e))
def numV(s:ByteArray):Int:=(Yg s.data.toList).getD 0
def CL(s:ByteArray):Bool:=(Yg s.data.toList).isSome
theorem S8(s:ByteArray)(w:World)(hw:SW w)(hs:s.size<=100000):
    Calls Tryz.prog 64 #[.string s] w fun e w'=>e=.returned (.tuple #[.int .i64 (numV s),.bool (CL s)])/\Below w.heap.size w w':=by
 have HW:Hid (SW w):=hw
 rcases Aj0 s w hw hs with⟨v,hv,hp⟩|⟨hn,hp⟩
 ·have hb:=Lib.parseIntB_bounds hv
  have h0:-9223372036854775808<=v:=hb.1
  have h1:v<=9223372036854775807:=by have:v<9223372036854775808:=hb.2;omega
  have hf:=fun W hW=>S7 v h0 h1 W hW
  have hN:Yg s.data.toList=if Lib.itoa v=s.data.toList then some v else none:=by unfold Yg;rw[hv]
  clear hv hb h0 h1 hw
  have key:(⟨(Lib.itoa v).toArray⟩:ByteArray)=s↔Lib.itoa v=s.data.toList:=⟨fun e=>by rw[<-e],fun e=>by rw[e]⟩
  generalize (⟨(Lib.itoa v).toArray⟩:ByteArray)=u at hf key
  by_cases hh:u=s
  ·rw[if_pos (key.1 hh)]at hN
   have e1:numV s=v:=by unfold numV;rw[hN];rfl
   have e2:CL s=true:=by unfold CL;rw[hN];rfl
   rw[e1,e2]
   subst hh
   clear key hN e1 e2
   go_enter Tryz.func64,Tryz.ntmps64
   go_wp2_with (first |(go_at_call 89;refine hp.mono ?_;rintro e w1 ⟨rfl,hb1⟩;have hw1:=HW.out.below hb1)|(go_at_call 82;refine(hf _ hw1).mono ?_;rintro e w2 ⟨rfl,hb2⟩))
   go_ret2
   exact⟨rfl,hb1.trans (hb2.mono hb1.size)⟩
  ·rw[if_neg (fun e=>hh (key.2 e))]at hN
   have e1:numV s=0:=by unfold numV;rw[hN];rfl
   have e2:CL s=false:=by unfold CL;rw[hN];rfl
   rw[e1,e2]
   have hl:=Aj1 hh
   clear key hN e1 e2
   go_enter Tryz.func64,Tryz.ntmps64
   go_wp2_with (first |(go_at_call 89;refine hp.mono ?_;rintro e w1 ⟨rfl,hb1⟩;have hw1:=HW.out.below hb1)|(go_at_call 82;refine(hf _ hw1).mono ?_;rintro e w2 ⟨rfl,hb2⟩))
   go_ret2
   exact⟨rfl,hb1.trans (hb2.mono hb1.size)⟩
 ·have hN:Yg s.data.toList=none:=by
   unfold Yg
   split
   ·rename_i v hv
    exact absurd hv (hn v)
   ·rfl
  have e1:numV s=0:=by unfold numV;rw[hN];rfl
  have e2:CL s=false:=by unfold CL;rw[hN];rfl
  rw[e1,e2]
  clear hn hw hN e1 e2
  go_enter Tryz.func64,Tryz.ntmps64
  go_wp2_with (go_at_call 89;refine hp.mono ?_;rintro e w1 ⟨n,t,p,rfl,hb1⟩)
  go_ret2
  exact⟨rfl,hb1⟩
end Go.Proofs.YtgmpfeaanjnhaaaGreatDoor
namespace Go.Proofs.YtgmpfeaanjnhaaaGreatDoor
open Go.RowKit
theorem CV{P:Program}{c:Code}{Q:Exit->Act->World->Prop}{a:Act}{w:World}(J:Nat->Act->World->Prop)(N:Nat)(h0:J 0 a w)
    (step:∀k a w,k<N->J k a w->∀R:Act->World->Prop,(∀a' w',J (k+1) a' w'->R a' w')->c.wp P (Exit.then R Q) a w)
    (last:∀a w,J N a w->∀R:Act->World->Prop,c.wp P (Exit.then R Q) a w):(Code.loop c).wp P Q a w:=by
 have key:∀d k a w,k+d=N->J k a w->Code.rounds P c Q (d+1) a w:=by
  intro d
  induction d with
  |zero=>intro k a w hk hJ;rw[rounds_succ];exact last a w (by rw[<-hk];exact hJ) _
  |succ d ih=>intro k a w hk hJ;rw[rounds_succ];exact step k a w (by omega) hJ _ fun a' w' h=>ih (k+1) a' w' (by omega) h
 exact wp_loop_rounds (N+1) (key N 0 a w (by omega) h0)
theorem Qz{ops:Array Oper}{rest:List Oper}{op:Oper}{a:Act}{w:World}{Q:Exit->Act->World->Prop}{ty:TypeId}{x:Operand}{k:Nat}{l:List Value}(hgd:op.guard=none)(ho:op.op=.load ty x)
    (hx:a.eval x=.pointer (some ⟨k,0,none⟩)) (A:Ap k l w) (hd:(Tryz.prog.underlying ty).any TypeDesc.isRow=true) (hi:(Tryz.prog.info? ty).map (·.size)=some l.length)
    (h:wpList Tryz.prog ops Q rest (a.put op.dst (.agg l.toArray)) w):wpList Tryz.prog ops Q (op::rest) a w:=by
 cases hu:Tryz.prog.underlying ty with
 |none=>rw[hu]at hd;cases hd
 |some d=>rw[hu]at hd;exact wpList_load_mid hgd ty x ho k 0 hx l d A.range hu hd hi h
theorem S9{ops:Array Oper}{rest:List Oper}{op:Oper}{a:Act}{w:World}{Q:Exit->Act->World->Prop}{ty:TypeId}{x y:Operand}(_:op.op=.store ty x y)(_:(Tryz.prog.underlying ty).any TypeDesc.isRow=true)
    (h:Stop (wpList Tryz.prog ops Q (op::rest) a w)):wpList Tryz.prog ops Q (op::rest) a w:=h.out
structure Off(k:Nat)(w w':World):Prop where
 os:w'.os=w.os
 tape:w'.tape=w.tape
 output:w'.output=w.output
 size:w'.heap.size=w.heap.size
 block:∀j,j≠k->w'.heap[j]? =w.heap[j]?
theorem Aj2(k o:Nat)(v:Value)(w:World):Off k w (w.setCell ⟨k,o,none⟩ v):=
 ⟨rfl,rfl,rfl,World.size_setCell _ _ _,fun _ hj=>Below.heap_setCell _ _ _ _ hj⟩
theorem Off.trans{k:Nat}{w w' w'':World}(h:Off k w w')(h':Off k w' w''):Off k w w'':=
 ⟨h'.os.trans h.os,h'.tape.trans h.tape,h'.output.trans h.output,h'.size.trans h.size,fun j hj=>(h'.block j hj).trans (h.block j hj)⟩
theorem No(k:Nat):∀(vs:List Value) (o:Nat) (w:World),Off k w (w.setCells k o vs)
 |[],_,_=>⟨rfl,rfl,rfl,rfl,fun _ _=>rfl⟩
 |v::r,o,w=>(Aj2 k o v w).trans (No k r (o+1) _)
theorem Ap.off{k k':Nat}{l:List Value}{w w':World}(A:Ap k' l w)(h:Off k w w')(hk:k'≠k):Ap k' l w':=A.same (h.block k' hk) (Nat.le_of_eq h.size.symm)
theorem Fl.off{k b:Nat}{bad:Bool}{w w':World}(A:Fl b bad w)(h:Off k w w')(hk:b≠k):Fl b bad w':=
 ⟨(World.cell?_of_block (w:=w) (a:=⟨b,0,none⟩) (h.block b hk)).trans A.cell,(World.frozen?_of_block (w:=w) (a:=⟨b,0,none⟩) (h.block b hk)).trans A.free,by rw[h.size];exact A.lies⟩
theorem Aa.off{b k:Nat}{x w w':World}(K:Aa b x w)(h:Off k w w')(hk:x.heap.size<=k):Aa b x w':=
 ⟨h.os.trans K.os,h.tape.trans K.tape,h.output.trans K.output,by rw[h.size];exact K.size,fun j hj hb=>(h.block j (by omega)).trans (K.block j hj hb)⟩
theorem Yi{ops:Array Oper}{rest:List Oper}{op:Oper}{a:Act}{w:World}{Q:Exit->Act->World->Prop}{ty:TypeId}{x y:Operand}{k:Nat}{l l':List Value}(hgd:op.guard=none)(ho:op.op=.store ty x y)
    (hx:a.eval x=.pointer (some ⟨k,0,none⟩)) (hy:a.eval y=.agg l'.toArray) (A:Ap k l w) (hl:l'.length=l.length) (hi:(Tryz.prog.info? ty).map (·.size)=some l'.length) (h1:l'.all (·.oneCell')=true)
    (h:∀w',Ap k l' w'->Off k w w'->wpList Tryz.prog ops Q rest (a.put op.dst undef) w'):wpList Tryz.prog ops Q (op::rest) a w:=by
 have th:w.there k 0 l'.length:=fun j hj=>by
  rw[Nat.zero_add]
  exact⟨by rw[A.c j (by omega)];rfl,A.f j (by omega)⟩
 have of:=No k l' 0 w
 refine wpList_store_mid hgd ty x y ho k 0 l'.toArray hx hy (by simpa using th) (by simpa using hi) (by simpa using h1) ?_
 refine h _ ⟨fun i hi'=>?_,fun i hi'=>?_,by simp only[of.size];exact A.lies⟩ of
 ·have:=World.cell?_setCells_in k l' 0 w (fun j hj=>(th j hj).1) i hi'
  rw[Nat.zero_add]at this
  exact this
 ·show(w.setCells k 0 l').frozen? _=false
  rw[World.frozen?_setCells]
  exact A.f i (by omega)
theorem Aj3(N:Nat)(g:Nat->Int):(row N g).all (·.oneCell')=true:=by
 rw[List.all_eq_true]
 intro v hv
 unfold row at hv
 obtain⟨i,_,rfl⟩:=List.mem_map.1 hv
 rfl
theorem Yj{ops:Array Oper}{S:World->Prop}{op:Oper}{a:Act}{ty:TypeId}{x:Operand}{k:Nat}{l:List Value}(hw:Region.wanted op (yielded ops a.tmps)=true)(ho:op.op=.load ty x)
    (hx:a.eval x=.pointer (some ⟨k,0,none⟩)) (hS:∀w,S w->Ap k l w) (hd:(Tryz.prog.underlying ty).any TypeDesc.isRow=true) (hi:(Tryz.prog.info? ty).map (·.size)=some l.length):
    YieldsIf Tryz.prog ops S op (.agg l.toArray) a:=by
 cases hu:Tryz.prog.underlying ty with
 |none=>rw[hu]at hd;cases hd
 |some d=>rw[hu]at hd;exact yieldsIf_load_mid hw ty x ho k 0 hx _ d (fun w h=>(hS w h).range) hu hd hi
def V5(k N:Nat)(g:Nat->Int)(o:Nat)(w:World):Prop:=∃g':Nat->Int,Ap k (row N g') w/\∀x,x≠o->g' x=g x
theorem V5.same{k N o:Nat}{g:Nat->Int}{w:World}(A:Ap k (row N g) w):V5 k N g o w:=⟨g,A,fun _ _=>rfl⟩
theorem V5.upd{k N o:Nat}{g:Nat->Int}{v:Int}{w:World}(A:Ap k (row N (updF g o v)) w):V5 k N g o w:=⟨_,A,fun _ hx=>if_neg hx⟩
theorem QA{P:Program}{c:Code}{Q:Exit->Act->World->Prop}{a:Act}{w:World}(h:∀K:Act->World->Prop,Hid (K=fun a w=>Q .normal a w)->Code.wp P c Q a w):Code.wp P c Q a w:=h _ rfl
theorem QC{K:Act->World->Prop}{Q:Exit->Act->World->Prop}{a:Act}{w:World}(e:Hid (K=fun a w=>Q .normal a w))(h:K a w):Q .normal a w:=by rw[e.out]at h;exact h
theorem QD{K p:Act->World->Prop}{a:Act}{w:World}(h:∀a w,p a w->K a w)(hp:p a w):K a w:=h a w hp
theorem Ap.fn{k N:Nat}{g g':Nat->Int}{w:World}(A:Ap k (row N g) w)(e:g=g'):Ap k (row N g') w:=e▸A
theorem QE:(Tryz.prog.info? 2).map (fun i=>(i.zero,i.size,i.bytes))=some (some (.int .i64 0),1,8):=by kernel_rfl
theorem Ac7(m:Nat):madeCells #[.int .i64 0] m=(row m fun _=>0).toArray:=by
 apply Array.ext
 ·simp[madeCells,row]
 ·intro i h1 h2
  simp[madeCells,row,Nat.mod_one]
def AY(ws:List ByteArray)(k i:Nat):Int:=if i<k then numV (ws.getD i ⟨#[]⟩)else 0
theorem Ac8(ws:List ByteArray)(k:Nat):updF (AY ws k) k (numV (ws.getD k ⟨#[]⟩))=AY ws (k+1):=by
 funext i
 unfold updF AY
 by_cases h:i=k
 ·subst h
  rw[if_pos rfl,if_pos (Nat.lt_succ_self _)]
 ·rw[if_neg h]
  by_cases h1:i<k
  ·rw[if_pos h1,if_pos (by omega)]
  ·rw[if_neg h1,if_neg (by omega)]
def Aj4(ws:List ByteArray)(m:Nat)(w:World)(e:Ending)(w':World):Prop:=
 Below w.heap.size w w'/\((ws.length=m/\(∀i,i<m->CL (ws.getD i ⟨#[]⟩)=true)/\∃g,e=.returned (.tuple #[.slice (some ⟨g,0,none⟩) m m,.bool true])/\w.heap.size<=g/\Ap g (row m (AY ws m)) w')∨
  ((ws.length≠m∨∃i,i<m/\CL (ws.getD i ⟨#[]⟩)=false)/\e=.returned (.tuple #[.slice none 0 0,.bool false])))
set_option maxHeartbeats 4000000 in
set_option maxRecDepth 100000 in
theorem JF(v:Value)(ws:List ByteArray)(m:Nat)(w:World)(hw:SW w)(hv:CE w v ws)(h1:1<=m)(hm:m<=100)(hs:∀i,(ws.getD i ⟨#[]⟩).size<=100000)(hl:ws.length<=100000):
    Calls Tryz.prog 47 #[v,.int .i64 m] w fun e w'=>Aj4 ws m w e w':=by
 obtain⟨a,c,rfl,hc,hk⟩:=hv
 by_cases hlm:ws.length=m
 ·obtain⟨g0,o,rfl,hg0,hcell⟩:=hk (fun e=>by rw[e]at hlm;simp at hlm;omega)
  have HC:Hid (∀i,i<m->w.cell? ⟨g0,o+i,none⟩=some (.string (ws.getD i ⟨#[]⟩))):=fun i hi=>by
   have h:i<ws.length:=by omega
   rw[hcell i h,List.getD_eq_getElem?_getD,List.getElem?_eq_getElem h]
   rfl
  have hmk:=run_make_row' (P:=Tryz.prog) 69 2 (.int .i64 0) 8 Tryz.underlying69 QE rfl .i64 .i64 m (by omega) (by omega)
  simp only[Ac7]at hmk
  have HN:Hid (∀i W,SW W->Calls Tryz.prog 64 #[.string (ws.getD i ⟨#[]⟩)] W fun e w'=>e=.returned (.tuple #[.int .i64 (numV (ws.getD i ⟨#[]⟩)),.bool (CL (ws.getD i ⟨#[]⟩))])/\Below W.heap.size W w'):=fun i W hW=>S8 _ W hW (hs i)
  have HW:Hid (SW w):=hw
  rw[hlm]at hc hl ⊢
  have HL:Hid (ws.length=m):=hlm
  clear hlm hcell hk hs hw
  go_enter Tryz.func47,Tryz.ntmps47
  go_wp2
  have A0:Ap w.heap.size (row m (AY ws 0)) (w.alloc (.cells (row m fun _=>0).toArray 2)):=Am w _ _ _ rfl
  have B0:Below w.heap.size w (w.alloc (.cells (row m fun _=>0).toArray 2)):=(Below.refl _ _).alloc (Nat.le_refl _) _
  generalize w.alloc (.cells (row m fun _=>0).toArray 2)=W0 at A0 B0 ⊢
  clear hmk
  go_loopw [19] (fun i wr=>∃k:Nat,k<=m/\i=.int .i64 k/\Hid (∀j,j<k->CL (ws.getD j ⟨#[]⟩)=true)/\Ap w.heap.size (row m (AY ws k)) wr/\Below w.heap.size w wr) (fun i _=>m-(intOf i).toNat)
  case atStart=>exact⟨0,by omega,rfl,fun j hj=>absurd hj (Nat.not_lt_zero _),A0,B0⟩
  case round=>
   obtain⟨k,hk,rfl,hok,hA,hnx⟩:=hrel
   have HA:Hid (Ap w.heap.size (row m (AY ws k)) wr):=hA
   clear hA
   by_cases hkm:k<m
   ·have c0:=(hnx.cell (p:=⟨g0,o+k,none⟩) hg0).trans (HC.out k hkm)
    have hnum:=HN.out k
    have hput:Hid (updF (AY ws k) k (numV (ws.getD k ⟨#[]⟩))=AY ws (k+1)):=Ac8 ws k
    have hd:Hid (CL (ws.getD k ⟨#[]⟩)=CL (ws.getD k ⟨#[]⟩)):=rfl
    have hd2:Hid (∀b,CL (ws.getD k ⟨#[]⟩)=b->b=false->∃i,i<m/\CL (ws.getD i ⟨#[]⟩)=false):=fun b e1 e2=>⟨k,hkm,e1.trans e2⟩
    have hd3:Hid (CL (ws.getD k ⟨#[]⟩)=true->∀j,j<k+1->CL (ws.getD j ⟨#[]⟩)=true):=fun e j hj=>by
     by_cases h:j=k
     ·rw[h];exact e
     ·exact hok.out j (by omega)
    clear hd
    cases hb:CL (ws.getD k ⟨#[]⟩)with
    |false=>
     have hd4:Hid (∃i,i<m/\CL (ws.getD i ⟨#[]⟩)=false):=hd2.out _ hb rfl
     rw[hb]at hnum
     clear hd2 hd3 hput hb
     generalize ws.getD k ⟨#[]⟩=p at c0 hnum
     generalize numV p=q at hnum
     go_wp2_with (go_at_call 64;refine(hnum _ (HW.out.below hnx)).mono ?_;rintro e w1 ⟨rfl,hb1⟩)
     go_ret2
     exact⟨hnx.trans (hb1.mono hnx.size),.inr ⟨.inr hd4.out,rfl⟩⟩
    |true=>
     have hd4:=hd3.out hb
     have HD:Hid (∀j,j<k+1->CL (ws.getD j ⟨#[]⟩)=true):=hd4
     rw[hb]at hnum
     clear hd2 hd3 hd4 hb
     generalize ws.getD k ⟨#[]⟩=p at c0 hnum hput
     generalize numV p=q at hnum hput
     go_wp2_with (go_at_call 64;refine(hnum _ (HW.out.below hnx)).mono ?_;rintro e w1 ⟨rfl,hb1⟩;have A1:=HA.out.below hb1;have c1:=DI A1 k hkm;have f1:=A1.f k (by rw[BU];exact hkm))
     go_roundw
     case rel=>exact⟨k+1,by omega,by go_num,HD,by rw[<-hput.out];exact NV (HA.out.below hb1) k hkm q,Al (hnx.trans (hb1.mono hnx.size)) _ _ (Nat.le_refl _) _⟩
     case measure=>simp[intOf];omega
   ·have hkn:k=m:=by omega
    subst hkn
    go_wp2
    go_ret2
    exact⟨hnx,.inl ⟨HL.out,hok.out,_,rfl,Nat.le_refl _,HA.out⟩⟩
 ·have HL:Hid (ws.length≠m):=hlm
  clear hk hw hs
  have hne:¬((ws.length:Int)=(m:Int)):=by omega
  generalize ws.length=n at hc hl hne
  go_enter Tryz.func47,Tryz.ntmps47
  go_wp2
  go_ret2
  exact⟨Below.refl _ _,.inr ⟨.inl HL.out,rfl⟩⟩
abbrev CR(ws:List ByteArray)(m:Nat):Prop:=ws.length=m/\∀i,i<m->CL (ws.getD i ⟨#[]⟩)=true
theorem QF(v:Value)(ws:List ByteArray)(m:Nat)(w:World)(hw:SW w)(hv:CE w v ws)(h1:1<=m)(hm:m<=100)(hs:∀i,(ws.getD i ⟨#[]⟩).size<=100000)(hl:ws.length<=100000)(hy:CR ws m):
    Calls Tryz.prog 47 #[v,.int .i64 m] w fun e w'=>∃g,e=.returned (.tuple #[.slice (some ⟨g,0,none⟩) m m,.bool true])/\w.heap.size<=g/\Ap g (row m (AY ws m)) w'/\Below w.heap.size w w':=by
 refine(JF v ws m w hw hv h1 hm hs hl).mono ?_
 rintro e w' ⟨hb,⟨_,_,g,he,hg,hA⟩|⟨hn |⟨i,hi,hf⟩,_⟩⟩
 ·exact⟨g,he,hg,hA,hb⟩
 ·exact absurd hy.1 hn
 ·rw[hy.2 i hi]at hf
  cases hf
theorem Ta(v:Value)(ws:List ByteArray)(m:Nat)(w:World)(hw:SW w)(hv:CE w v ws)(h1:1<=m)(hm:m<=100)(hs:∀i,(ws.getD i ⟨#[]⟩).size<=100000)(hl:ws.length<=100000)(hy:¬CR ws m):
    Calls Tryz.prog 47 #[v,.int .i64 m] w fun e w'=>e=.returned (.tuple #[.slice none 0 0,.bool false])/\Below w.heap.size w w':=by
 refine(JF v ws m w hw hv h1 hm hs hl).mono ?_
 rintro e w' ⟨hb,⟨ha,hc,_⟩|⟨_,he⟩⟩
 ·exact absurd ⟨ha,hc⟩ hy
 ·exact⟨he,hb⟩
set_option maxRecDepth 100000
set_option maxHeartbeats 20000000
def digV(c:Nat):Nat×Bool:=if 48<=c/\c<=57 then(c-48,true)else if 97<=c/\c<=102 then(c-87,true)else(0,false)
theorem Kb(c:Nat):(digV c).1<16:=by
 unfold digV
 split
 ·show c-48<16;omega
 ·split
  ·show c-87<16;omega
  ·decide
theorem Yk(c:Nat)(w:World)(hc:c<256):
    Calls Tryz.prog 63 #[.int .u8 c] w fun e w'=>e=.returned (.tuple #[.int .u8 ((digV c).1:Nat),.bool (digV c).2])/\Below w.heap.size w w':=by
 by_cases h1:48<=c/\c<=57
 ·have e:digV c=(c-48,true):=by unfold digV;rw[if_pos h1]
  rw[e]
  obtain⟨h2,h3⟩:=h1
  obtain⟨d,rfl⟩:∃d,c=d+48:=⟨c-48,by omega⟩
  rw[show d+48-48=d by omega]
  clear e
  go_enter Tryz.func63,Tryz.ntmps63
  go_wp2
  go_ret2
  refine⟨?_,Below.refl _ _⟩
  go_num
 by_cases h2:97<=c/\c<=102
 ·have e:digV c=(c-87,true):=by unfold digV;rw[if_neg h1,if_pos h2]
  rw[e]
  obtain⟨h3,h4⟩:=h2
  have h5:¬c<=57:=by omega
  obtain⟨d,rfl⟩:∃d,c=d+87:=⟨c-87,by omega⟩
  rw[show d+87-87=d by omega]
  clear e h1
  go_enter Tryz.func63,Tryz.ntmps63
  go_wp2
  go_ret2
  refine⟨?_,Below.refl _ _⟩
  go_num
 ·have e:digV c=(0,false):=by unfold digV;rw[if_neg h1,if_neg h2]
  rw[e]
  clear e
  by_cases h3:c<48
  ·go_enter Tryz.func63,Tryz.ntmps63
   go_wp2
   go_ret2
   exact⟨rfl,Below.refl _ _⟩
  by_cases h4:c<97
  ·have h5:57<c:=by omega
   go_enter Tryz.func63,Tryz.ntmps63
   go_wp2
   go_ret2
   exact⟨rfl,Below.refl _ _⟩
  ·have h5:102<c:=by omega
   go_enter Tryz.func63,Tryz.ntmps63
   go_wp2
   go_ret2
   exact⟨rfl,Below.refl _ _⟩
def chr(s:ByteArray)(i:Nat):Nat:=(s.data.toList.getD i 0).toNat
theorem Hs(s:ByteArray)(i:Nat):chr s i<256:=UInt8.toNat_lt _
theorem Je{s:ByteArray}{i:Nat}(h:i<s.size):(s[i]'h).toNat=chr s i:=by unfold chr;rw[Fu h]
def hexV(a b:Nat):Int:=a*16+b
def JG(s:ByteArray)(i:Nat):Bool:=(digV (chr s (2*i))).2&&(digV (chr s (2*i+1))).2
def Ac9(s:ByteArray)(k i:Nat):Int:=if i<k then hexV (digV (chr s (2*i))).1 (digV (chr s (2*i+1))).1 else 0
def hexL(s:ByteArray)(m k:Nat):List Int:=(List.range m).map (Ac9 s k)
theorem Ce(s:ByteArray)(m k:Nat):(hexL s m k).length=m:=by unfold hexL;simp
theorem V6{s:ByteArray}{m k i:Nat}(h:i<m):(u8s (hexL s m k))[i]? =some (.int .u8 (Ac9 s k i)):=by
 unfold u8s hexL
 rw[List.getElem?_map,List.getElem?_map,List.getElem?_range h]
 rfl
theorem Dd(l:List Int):(u8s l).length=l.length:=by unfold u8s;simp
theorem Ada(s:ByteArray)(m k:Nat):u8s (hexL s m (k+1))=(u8s (hexL s m k)).set k (.int .u8 (hexV (digV (chr s (2*k))).1 (digV (chr s (2*k+1))).1)):=by
 apply List.ext_getElem?
 intro i
 rw[List.getElem?_set]
 by_cases hm:i<m
 ·rw[V6 hm,V6 hm]
  unfold Ac9
  by_cases h:k=i
  ·subst h
   rw[if_pos (show k<k+1 by omega),if_pos rfl,if_pos (by rw[Dd,Ce];exact hm)]
  ·rw[if_neg h]
   by_cases h1:i<k
   ·rw[if_pos h1,if_pos (by omega)]
   ·rw[if_neg h1,if_neg (by omega)]
 ·have e:∀j,(u8s (hexL s m j))[i]? =none:=fun j=>List.getElem?_eq_none (by rw[Dd,Ce];omega)
  rw[e,e]
  by_cases h:k=i
  ·subst h
   rw[if_pos rfl,if_neg (by rw[Dd,Ce];exact hm)]
  ·rw[if_neg h]
theorem Adb(s:ByteArray)(m:Nat):madeCells #[.int .u8 0] m=(u8s (hexL s m 0)).toArray:=by
 apply Array.ext
 ·simp[madeCells,hexL,u8s]
 ·intro i h1 h2
  simp[madeCells,hexL,u8s,Ac9,Nat.mod_one]
theorem QG{g:Nat}{w:World}{l:List Int}(A:Ap g (u8s l) w)(hr:∀b∈l,0<=b/\b<256):(convert 56 9 (.slice (some ⟨g,0,none⟩) l.length l.length)).run Tryz.prog w=.ok (.string (strOf l)) w:=by
 have e:l.length=(l.map fun b=>UInt8.ofNat b.toNat).length:=by simp
 have hc:=run_convert_bytes_back w 56 9 5 ⟨g,0,none⟩ l.length (l.map fun b=>UInt8.ofNat b.toNat) Tryz.underlying56 Tryz.underlying5 Tryz.underlying9 (fun j hj=>by
  have hj':j<l.length:=by rw[e];exact hj
  have hb:=hr l[j] (List.getElem_mem hj')
  have:=A.c j (by rw[Dd];exact hj')
  rw[Ix,this]
  unfold u8s
  simp
  omega)
 rw[<-e]at hc
 exact hc
def HexEnd(s:ByteArray)(e:Ending):Prop:=
 if s=⟨#[45]⟩then e=.returned (.tuple #[.string ⟨#[]⟩,.bool true])
 else if s.size % 2=0/\∀i,i<s.size / 2->JG s i=true then e=.returned (.tuple #[.string (strOf (hexL s (s.size / 2) (s.size / 2))),.bool true])
 else e=.returned (.tuple #[.string ⟨#[]⟩,.bool false])
theorem Np{s:ByteArray}(h1:s≠⟨#[45]⟩)(h2:¬(s.size % 2=0/\∀i,i<s.size / 2->JG s i=true)):HexEnd s (.returned (.tuple #[.string ⟨#[]⟩,.bool false])):=by
 unfold HexEnd
 rw[if_neg h1,if_neg h2]
theorem Adc(p q:Nat)(hp:p<16)(hq:q<16):bits BinOp.or IntKind.u8 ((p:Int)*16) (q:Int)=hexV p q:=by
 have h:∀a:Fin 16,∀b:Fin 16,bits BinOp.or IntKind.u8 ((a.val:Int)*16) (b.val:Int)=hexV a.val b.val:=by decide+kernel
 exact h ⟨p,hp⟩ ⟨q,hq⟩
theorem Ade(s:ByteArray)(m k:Nat):∀b∈hexL s m k,0<=b/\b<256:=by
 intro b hb
 unfold hexL at hb
 obtain⟨i,_,rfl⟩:=List.mem_map.1 hb
 have h1:=Kb (chr s (2*i))
 have h2:=Kb (chr s (2*i+1))
 unfold Ac9 hexV
 split<;>omega
theorem Yl(s:ByteArray)(w:World)(h0:1<=s.size)(hs:s.size<=100000):
    Calls Tryz.prog 46 #[.string s] w fun e w'=>HexEnd s e/\Below w.heap.size w w':=by
 by_cases hd:s=⟨#[45]⟩
 ·have HE:Hid (HexEnd s (.returned (.tuple #[.string ⟨#[]⟩,.bool true]))):=by show HexEnd s _;unfold HexEnd;rw[if_pos hd]
  generalize HexEnd s=E at HE ⊢
  subst hd
  go_enter Tryz.func46,Tryz.ntmps46
  go_wp2
  go_ret2
  exact⟨HE.out,Below.refl _ _⟩
 have hl:(s.toList==[45])=false:=by
  rw[beq_eq_false_iff_ne,Lib.toList_data]
  exact fun e=>hd (ByteArray.ext (Array.toList_inj.1 e))
 by_cases hodd:s.size % 2=0
 ·obtain⟨m,hm⟩:∃m,s.size=2*m:=⟨s.size / 2,by omega⟩
  have hmk:=run_make_row' (P:=Tryz.prog) 56 5 (.int .u8 0) 1 Tryz.underlying56 M9 rfl .i64 .i64 m (by omega) (by omega)
  simp only[Adb s m]at hmk
  have HNo:Hid (∀k,k<m->JG s k=false->HexEnd s (.returned (.tuple #[.string ⟨#[]⟩,.bool false]))):=fun k hk e=>Np hd (fun h=>by have:=h.2 k (by omega);rw[e]at this;cases this)
  have HYes:Hid ((∀i,i<m->JG s i=true)->HexEnd s (.returned (.tuple #[.string (strOf (hexL s m m)),.bool true]))):=fun h=>by
   unfold HexEnd
   rw[if_neg hd,show s.size / 2=m by omega,if_pos ⟨hodd,h⟩]
  have HD:Hid (∀i W,Calls Tryz.prog 63 #[.int .u8 (chr s i:Nat)] W fun e w'=>e=.returned (.tuple #[.int .u8 ((digV (chr s i)).1:Nat),.bool (digV (chr s i)).2])/\Below W.heap.size W w'):=fun i W=>Yk _ W (Hs s i)
  generalize HexEnd s=E at HNo HYes ⊢
  clear hd hodd
  go_enter Tryz.func46,Tryz.ntmps46
  go_wp2
  have A0:Ap w.heap.size (u8s (hexL s m 0)) (w.alloc (.cells (u8s (hexL s m 0)).toArray 5)):=Am w _ _ _ rfl
  have B0:Below w.heap.size w (w.alloc (.cells (u8s (hexL s m 0)).toArray 5)):=(Below.refl _ _).alloc (Nat.le_refl _) _
  generalize w.alloc (.cells (u8s (hexL s m 0)).toArray 5)=W0 at A0 B0 ⊢
  clear hmk
  go_loopw [22] (fun i wr=>∃k:Nat,k<=m/\i=.int .i64 k/\Hid (∀j,j<k->JG s j=true)/\Ap w.heap.size (u8s (hexL s m k)) wr/\Below w.heap.size w wr) (fun i _=>m-(intOf i).toNat)
  case atStart=>exact⟨0,by omega,rfl,fun j hj=>absurd hj (Nat.not_lt_zero _),A0,B0⟩
  case round=>
   obtain⟨k,hk,rfl,hok,hA,hnx⟩:=hrel
   have HA:Hid (Ap w.heap.size (u8s (hexL s m k)) wr):=hA
   clear hA
   by_cases hkm:k<m
   ·have i0:2*k<s.size:=by omega
    have i1:2*k+1<s.size:=by omega
    have c0:=Je i0
    have c1:=Je i1
    have d0:=HD.out (2*k)
    have d1:=HD.out (2*k+1)
    have hput:Hid (u8s (hexL s m (k+1))=(u8s (hexL s m k)).set k (.int .u8 (hexV (digV (chr s (2*k))).1 (digV (chr s (2*k+1))).1))):=Ada s m k
    have hno:Hid (((digV (chr s (2*k))).2&&(digV (chr s (2*k+1))).2)=false->E (.returned (.tuple #[.string ⟨#[]⟩,.bool false]))):=fun e=>HNo.out k hkm e
    have hyes:Hid (((digV (chr s (2*k))).2&&(digV (chr s (2*k+1))).2)=true->∀j,j<k+1->JG s j=true):=fun e j hj=>by
     by_cases h:j=k
     ·rw[h];exact e
     ·exact hok.out j (by omega)
    have l0:=Kb (chr s (2*k))
    have l1:=Kb (chr s (2*k+1))
    have z0:=Hs s (2*k)
    have z1:=Hs s (2*k+1)
    generalize digV (chr s (2*k))=p at d0 hput hno hyes l0
    generalize digV (chr s (2*k+1))=q at d1 hput hno hyes l1
    obtain⟨p,pb⟩:=p
    obtain⟨q,qb⟩:=q
    generalize chr s (2*k)=x at c0 d0 z0
    generalize chr s (2*k+1)=y at c1 d1 z1
    by_cases hpq:(pb&&qb)=true
    ·obtain⟨rfl,rfl⟩:pb=true/\qb=true:=by simpa using hpq
     have HY:Hid (∀j,j<k+1->JG s j=true):=hyes.out rfl
     clear hno hyes hpq HNo HYes HD
     go_wp2_with (go_at_call 63;first |(refine(d0 _).mono ?_;rintro e w1 ⟨rfl,hb1⟩;clear d0)|(refine(d1 _).mono ?_;rintro e w2 ⟨rfl,hb2⟩;have A1:=(HA.out.below hb1).below hb2;have cc:=A1.c k (by rw[Dd,Ce];exact hkm);have f1:=A1.f k (by rw[Dd,Ce];exact hkm)))
     go_roundw
     case rel=>
      refine⟨k+1,by omega,by go_num,HY,?_,Al (hnx.trans ((hb1.trans (hb2.mono hb1.size)).mono hnx.size)) _ _ (Nat.le_refl _) _⟩
      rw[hput.out,Adc p q l0 l1]
      exact((HA.out.below hb1).below hb2).put k (by rw[Dd,Ce];exact hkm) _ _ rfl
     case measure=>simp[intOf];omega
    ·have hF:Hid (E (.returned (.tuple #[.string ⟨#[]⟩,.bool false]))):=hno.out (by simpa using hpq)
     clear hno hyes hput HNo HYes HD
     cases pb with
     |false=>
      go_wp2_with (go_at_call 63;first |(refine(d0 _).mono ?_;rintro e w1 ⟨rfl,hb1⟩;clear d0)|(refine(d1 _).mono ?_;rintro e w2 ⟨rfl,hb2⟩;have A1:=(HA.out.below hb1).below hb2;have cc:=A1.c k (by rw[Dd,Ce];exact hkm);have f1:=A1.f k (by rw[Dd,Ce];exact hkm)))
      go_ret2
      exact⟨hF.out,hnx.trans ((hb1.trans (hb2.mono hb1.size)).mono hnx.size)⟩
     |true=>
      obtain rfl:qb=false:=by simpa using hpq
      go_wp2_with (go_at_call 63;first |(refine(d0 _).mono ?_;rintro e w1 ⟨rfl,hb1⟩;clear d0)|(refine(d1 _).mono ?_;rintro e w2 ⟨rfl,hb2⟩;have A1:=(HA.out.below hb1).below hb2;have cc:=A1.c k (by rw[Dd,Ce];exact hkm);have f1:=A1.f k (by rw[Dd,Ce];exact hkm)))
      go_ret2
      exact⟨hF.out,hnx.trans ((hb1.trans (hb2.mono hb1.size)).mono hnx.size)⟩
   ·have hkn:k=m:=by omega
    subst hkn
    have hcv:=QG HA.out (Ade s k k)
    rw[Ce]at hcv
    go_wp2
    go_ret2
    exact⟨HYes.out hok.out,hnx⟩
 ·have HE:Hid (HexEnd s (.returned (.tuple #[.string ⟨#[]⟩,.bool false]))):=Np hd (fun h=>hodd h.1)
  generalize HexEnd s=E at HE ⊢
  obtain⟨m,hm⟩:∃m,s.size=2*m+1:=⟨s.size / 2,by omega⟩
  clear hd hodd
  go_enter Tryz.func46,Tryz.ntmps46
  go_wp2
  go_ret2
  exact⟨HE.out,Below.refl _ _⟩
theorem Auk(W:World)(g:Nat)(a b c:UInt8)(h0:W.cell? ⟨g,0,none⟩=some (.int .u8 (a.toNat:Nat)))(h1:W.cell? ⟨g,1,none⟩=some (.int .u8 (b.toNat:Nat)))(h2:W.cell? ⟨g,2,none⟩=some (.int .u8 (c.toNat:Nat))):
    (convert 56 9 (.slice (some ⟨g,0,none⟩) 3 3)).run Tryz.prog W=.ok (.string ⟨#[a,b,c]⟩) W:=
 run_convert_bytes_back W 56 9 5 ⟨g,0,none⟩ 3 [a,b,c] Tryz.underlying56 Tryz.underlying5 Tryz.underlying9 (fun j hj=>by
  match j,hj with
  |0,_=>exact h0
  |1,_=>exact h1
  |2,_=>exact h2)
theorem Adf(W:World)(g:Nat)(a b:UInt8)(h0:W.cell? ⟨g,0,none⟩=some (.int .u8 (a.toNat:Nat)))(h1:W.cell? ⟨g,1,none⟩=some (.int .u8 (b.toNat:Nat))):
    (convert 56 9 (.slice (some ⟨g,0,none⟩) 2 2)).run Tryz.prog W=.ok (.string ⟨#[a,b]⟩) W:=
 run_convert_bytes_back W 56 9 5 ⟨g,0,none⟩ 2 [a,b] Tryz.underlying56 Tryz.underlying5 Tryz.underlying9 (fun j hj=>by
  match j,hj with
  |0,_=>exact h0
  |1,_=>exact h1)
theorem IC(U:World)(g:Nat)(C:Array Value)(t:TypeId)(j:Nat)(hg:g=U.heap.size):(U.alloc (.cells C t)).cell? ⟨g,j,none⟩=C[j]? :=by
 subst hg
 exact World.cell?_alloc_mark U C t (0,0) j
theorem EW(a b:ByteArray):(a++b).data.toList=a.data.toList++b.data.toList:=by
 rw[ByteArray.data_append,Array.toList_append]
theorem Fx(W:World)(a b:ByteArray)(h:a.size+b.size<=5000):(Op.stringOp .add a b).run Tryz.prog W=.ok (.string (a++b)) W:=run_string_add_sum W a b (by omega)
theorem Adg(k:UInt8)(d:ByteArray)(w:World)(hd:d.size<=64):
    Calls Tryz.prog 65 #[.agg #[.int .i64 (k.toNat:Nat),.string d]] w fun e w'=>∃s:ByteArray,e=.returned (.tuple #[.string s,.bool true])/\s.data.toList=GQ k d.data.toList/\Below w.heap.size w w':=by
 obtain⟨n,hn⟩:∃n,k.toNat=n:=⟨_,rfl⟩
 have hk:n<256:=by rw[<-hn];exact k.toNat_lt
 have e3:(convert 56 9 (.slice (some ⟨w.heap.size+1,0,none⟩) 3 3)).run Tryz.prog ((w.alloc (.cells #[.int .i64 (n:Int),.string d] 77)).alloc (.cells #[.int .u8 165,.int .u8 (n:Int),.int .u8 (d.size:Int)] 5))=.ok (.string ⟨#[165,k,UInt8.ofNat d.size]⟩) ((w.alloc (.cells #[.int .i64 (n:Int),.string d] 77)).alloc (.cells #[.int .u8 165,.int .u8 (n:Int),.int .u8 (d.size:Int)] 5)):=
  Auk _ _ 165 k (UInt8.ofNat d.size) (by simp) (by simp[hn]) (by rw[ofNat_toNat (by omega)];simp)
 obtain⟨S1,hS1⟩:∃S:ByteArray,S=⟨#[165,k,UInt8.ofNat d.size]⟩:=⟨_,rfl⟩
 rw[<-hS1]at e3
 have z1:S1.size=3:=by rw[hS1];rfl
 have a1:=fun W=>Fx W S1 d (by omega)
 obtain⟨S2,hS2⟩:∃S:ByteArray,S=S1++d:=⟨_,rfl⟩
 rw[<-hS2]at a1
 have z2:S2.size=3+d.size:=by rw[hS2,ByteArray.size_append,z1]
 have L2:Hid (S2.data.toList=[165]++BN k d.data.toList):=by
  show _=_
  rw[hS2,EW,hS1]
  rfl
 have s3:∀W:World,(Instr.slice 9 (.string S2) (some (.int .i64 1)) none none).run Tryz.prog W=.ok (.string (S2.extract 1 S2.size)) W:=fun W=>by
  rw[run_slice_string_from_if W 9 S2 .i64 1 Tryz.underlying9,if_pos (by omega)]
  rfl
 obtain⟨S3,hS3⟩:∃S:ByteArray,S=S2.extract 1 S2.size:=⟨_,rfl⟩
 rw[<-hS3]at s3
 have z3:S3.size=2+d.size:=by rw[hS3,ByteArray.size_extract];omega
 have L3:S3.data.toList=BN k d.data.toList:=by
  rw[hS3,Cx,L2.out,List.take_of_length_le (by rw[<-L2.out,List.length_drop];exact Nat.le_refl _)]
  rfl
 have hsum:=fun W=>V1 S3 W (by omega)
 rw[L3]at hsum
 have hq:=Ox (BN k d.data.toList)
 obtain⟨q,hqe⟩:∃q,q=FL (BN k d.data.toList):=⟨_,rfl⟩
 rw[<-hqe]at hsum hq
 have e4:(convert 56 9 (.slice (some ⟨w.heap.size+1+1,0,none⟩) 2 2)).run Tryz.prog (((w.alloc (.cells #[.int .i64 (n:Int),.string d] 77)).alloc (.cells #[.int .u8 165,.int .u8 (n:Int),.int .u8 (d.size:Int)] 5)).alloc (.cells #[.int .u8 ((q:Int) / 256),.int .u8 ((q:Int) % 256)] 5))=.ok (.string ⟨#[UInt8.ofNat (q / 256),UInt8.ofNat (q % 256)]⟩) (((w.alloc (.cells #[.int .i64 (n:Int),.string d] 77)).alloc (.cells #[.int .u8 165,.int .u8 (n:Int),.int .u8 (d.size:Int)] 5)).alloc (.cells #[.int .u8 ((q:Int) / 256),.int .u8 ((q:Int) % 256)] 5)):=
  Adf _ _ (UInt8.ofNat (q / 256)) (UInt8.ofNat (q % 256)) (by rw[ofNat_toNat (by omega)];exact IC _ _ _ _ 0 (by simp)) (by rw[ofNat_toNat (by omega)];exact IC _ _ _ _ 1 (by simp))
 obtain⟨S4,hS4⟩:∃S:ByteArray,S=⟨#[UInt8.ofNat (q / 256),UInt8.ofNat (q % 256)]⟩:=⟨_,rfl⟩
 rw[<-hS4]at e4
 have z4:S4.size=2:=by rw[hS4];rfl
 have a5:=fun W=>Fx W S2 S4 (by omega)
 obtain⟨S5,hS5⟩:∃S:ByteArray,S=S2++S4:=⟨_,rfl⟩
 rw[<-hS5]at a5
 have L5:Hid (S5.data.toList=GQ k d.data.toList):=by
  show _=_
  rw[hS5,EW,L2.out,hS4,hqe]
  rfl
 clear hqe L3 hS3 hS2 hS1 hS4 hS5
 go_enter Tryz.func65,Tryz.ntmps65
 go_wp2_with (go_at_call 90;refine(hsum _).mono ?_;rintro e w1 ⟨rfl,rfl⟩)
 go_ret2
 exact⟨S5,rfl,L5.out,(((Below.refl _ w).alloc (Nat.le_refl _) _).alloc (by simp) _).alloc (by simp;omega) _⟩
theorem Aj5(k:Int)(d:ByteArray)(w:World)(h:¬(0<=k/\k<=255/\d.size<=64)):
    Calls Tryz.prog 65 #[.agg #[.int .i64 k,.string d]] w fun e w'=>e=.returned (.tuple #[.string ⟨#[]⟩,.bool false])/\Below w.heap.size w w':=by
 have h':decide (k<0)||decide (255<k)||decide (64<(d.size:Int)):=by simp;omega
 go_enter Tryz.func65,Tryz.ntmps65
 go_wp2
 all_goals (go_ret2;exact⟨rfl,(Below.refl _ w).alloc (Nat.le_refl _) _⟩)
theorem Ym(k:UInt8)(d:ByteArray)(w:World)(hd:d.size<=64):
    Calls Tryz.prog 41 #[.agg #[.int .i64 (k.toNat:Nat),.string d]] w fun e w'=>∃s:ByteArray,e=.returned (.tuple #[.string s,.bool true])/\s.data.toList=GQ k d.data.toList/\Below w.heap.size w w':=by
 obtain⟨n,hn⟩:∃n,k.toNat=n:=⟨_,rfl⟩
 have hk:n<256:=by rw[<-hn];exact k.toNat_lt
 have e3:(convert 56 9 (.slice (some ⟨w.heap.size+1,0,none⟩) 2 2)).run Tryz.prog ((w.alloc (.cells #[.int .i64 (n:Int),.string d] 77)).alloc (.cells #[.int .u8 (n:Int),.int .u8 (d.size:Int)] 5))=.ok (.string ⟨#[k,UInt8.ofNat d.size]⟩) ((w.alloc (.cells #[.int .i64 (n:Int),.string d] 77)).alloc (.cells #[.int .u8 (n:Int),.int .u8 (d.size:Int)] 5)):=
  Adf _ _ k (UInt8.ofNat d.size) (by simp[hn]) (by rw[ofNat_toNat (by omega)];simp)
 obtain⟨S1,hS1⟩:∃S:ByteArray,S=⟨#[k,UInt8.ofNat d.size]⟩:=⟨_,rfl⟩
 rw[<-hS1]at e3
 have z1:S1.size=2:=by rw[hS1];rfl
 have a1:=fun W=>Fx W S1 d (by omega)
 obtain⟨S2,hS2⟩:∃S:ByteArray,S=S1++d:=⟨_,rfl⟩
 rw[<-hS2]at a1
 have z2:S2.size=2+d.size:=by rw[hS2,ByteArray.size_append,z1]
 have L3:S2.data.toList=BN k d.data.toList:=by
  rw[hS2,EW,hS1]
  rfl
 have a2:=fun W=>Fx W ⟨#[165]⟩ S2 (by have:(⟨#[165]⟩:ByteArray).size=1:=rfl;omega)
 obtain⟨S3,hS3⟩:∃S:ByteArray,S=⟨#[165]⟩++S2:=⟨_,rfl⟩
 rw[<-hS3]at a2
 have z3:S3.size=1+S2.size:=by rw[hS3,ByteArray.size_append];rfl
 have L2:Hid (S3.data.toList=[165]++BN k d.data.toList):=by
  show _=_
  rw[hS3,EW,L3]
 have hsum:=fun W=>Acn S2 W (by omega)
 rw[L3]at hsum
 have hq:=Ox (BN k d.data.toList)
 obtain⟨q,hqe⟩:∃q,q=FL (BN k d.data.toList):=⟨_,rfl⟩
 rw[<-hqe]at hsum hq
 have e4:(convert 56 9 (.slice (some ⟨w.heap.size+1+1,0,none⟩) 2 2)).run Tryz.prog (((w.alloc (.cells #[.int .i64 (n:Int),.string d] 77)).alloc (.cells #[.int .u8 (n:Int),.int .u8 (d.size:Int)] 5)).alloc (.cells #[.int .u8 ((q:Int) / 256),.int .u8 ((q:Int) % 256)] 5))=.ok (.string ⟨#[UInt8.ofNat (q / 256),UInt8.ofNat (q % 256)]⟩) (((w.alloc (.cells #[.int .i64 (n:Int),.string d] 77)).alloc (.cells #[.int .u8 (n:Int),.int .u8 (d.size:Int)] 5)).alloc (.cells #[.int .u8 ((q:Int) / 256),.int .u8 ((q:Int) % 256)] 5)):=
  Adf _ _ (UInt8.ofNat (q / 256)) (UInt8.ofNat (q % 256)) (by rw[ofNat_toNat (by omega)];exact IC _ _ _ _ 0 (by simp)) (by rw[ofNat_toNat (by omega)];exact IC _ _ _ _ 1 (by simp))
 obtain⟨S4,hS4⟩:∃S:ByteArray,S=⟨#[UInt8.ofNat (q / 256),UInt8.ofNat (q % 256)]⟩:=⟨_,rfl⟩
 rw[<-hS4]at e4
 have z4:S4.size=2:=by rw[hS4];rfl
 have a5:=fun W=>Fx W S3 S4 (by omega)
 obtain⟨S5,hS5⟩:∃S:ByteArray,S=S3++S4:=⟨_,rfl⟩
 rw[<-hS5]at a5
 have L5:Hid (S5.data.toList=GQ k d.data.toList):=by
  show _=_
  rw[hS5,EW,L2.out,hS4,hqe]
  rfl
 clear hqe L3 hS3 hS2 hS1 hS4 hS5
 go_enter Tryz.func41,Tryz.ntmps41
 go_wp2_with (go_at_call 55;refine(hsum _).mono ?_;rintro e w1 ⟨rfl,rfl⟩)
 go_ret2
 exact⟨S5,rfl,L5.out,(((Below.refl _ w).alloc (Nat.le_refl _) _).alloc (by simp) _).alloc (by simp;omega) _⟩
theorem Adh(k:Int)(d:ByteArray)(w:World)(h:¬(0<=k/\k<=255/\d.size<=64)):
    Calls Tryz.prog 41 #[.agg #[.int .i64 k,.string d]] w fun e w'=>e=.returned (.tuple #[.string ⟨#[]⟩,.bool false])/\Below w.heap.size w w':=by
 have h':decide (k<0)||decide (255<k)||decide (64<(d.size:Int)):=by simp;omega
 go_enter Tryz.func41,Tryz.ntmps41
 go_wp2
 all_goals (go_ret2;exact⟨rfl,(Below.refl _ w).alloc (Nat.le_refl _) _⟩)
end Go.Proofs.YtgmpfeaanjnhaaaGreatDoor
namespace Go.Proofs.YtgmpfeaanjnhaaaGreatDoor
open Go.RowKit
def GI(c:Nat)(s:ByteArray)(k:Nat):Nat:=(s.data.toList.take k).countP fun x=>x.toNat==c
theorem Yn(c:Nat){s:ByteArray}{k:Nat}(h:k<s.size):GI c s (k+1)=GI c s k+(if chr s k=c then 1 else 0):=by
 have hl:k<s.data.toList.length:=h
 unfold GI chr
 rw[List.take_add_one,List.getElem?_eq_getElem hl,Option.toList_some,List.countP_append,List.countP_singleton,List.getD_eq_getElem?_getD,List.getElem?_eq_getElem hl,Option.getD_some]
 by_cases e:(s.data.toList[k]).toNat=c
 ·rw[if_pos e,if_pos (by simpa using e)]
 ·rw[if_neg e,if_neg (by simpa using e)]
theorem Aj6(c:Nat)(s:ByteArray)(k:Nat):GI c s k<=k:=by
 unfold GI
 exact Nat.le_trans List.countP_le_length (by rw[List.length_take];exact Nat.min_le_left _ _)
theorem Adi(c:UInt8)(s:ByteArray):GI c.toNat s s.size=s.data.toList.count c:=by
 unfold GI
 show(List.take s.data.toList.length s.data.toList).countP _=_
 rw[List.take_length,List.count]
 congr 1
 funext x
 by_cases h:x=c
 ·subst h
  rw[beq_self_eq_true,beq_self_eq_true]
 ·have h2:¬x.toNat=c.toNat:=fun e=>h (UInt8.toNat_inj.1 e)
  rw[beq_eq_false_iff_ne.2 h2,beq_eq_false_iff_ne.2 h]
def Ll(m:Nat)(l:List ByteArray):Prop:=∀x∈l,x.size<=m
theorem Ll.add{m:Nat}{l:List ByteArray}{x:ByteArray}(h:Ll m l)(hx:x.size<=m):Ll m (l++[x]):=by
 intro y hy
 rcases List.mem_append.1 hy with h1 |h1
 ·exact h y h1
 ·rw[List.mem_singleton.1 h1]
  exact hx
set_option maxHeartbeats 4000000 in
set_option maxRecDepth 100000 in
theorem Lm(s:ByteArray)(c:Nat)(w:World)(hs:s.size<=100000):
    Calls Tryz.prog 8 #[.string s,.int .u8 c] w fun e w'=>∃v l,e=.returned v/\FM w.heap.size w' v l/\l.length=GI c s s.size+1/\Ll s.size l/\Below w.heap.size w w':=by
 obtain⟨i0,hi,hz0,hz1,hz2⟩:=info_parts Lj
 go_enter Tryz.func8,Tryz.ntmps8
 go_wp2
 go_loopw [5,6,7] (fun v fv iv wr=>∃(k p:Nat) (acc:List ByteArray),k<=s.size+1/\p<=k/\iv=.int .i64 k/\fv=.int .i64 p/\Hid (acc.length=if k<=s.size then GI c s k else GI c s s.size+1)/\acc.length<=k/\Hid (Ll s.size acc)/\FM w.heap.size wr v acc/\Below w.heap.size w wr) (fun _ _ i _=>s.size+1-(intOf i).toNat)
 case atStart=>exact⟨0,0,[],by omega,by omega,rfl,rfl,by show _=_;rw[if_pos (Nat.zero_le _)];rfl,Nat.le_refl _,(by intro x hx;cases hx),World.ownsRow_nil _ _ _ _,Below.refl _ _⟩
 case round=>
  obtain⟨k,p,acc,hk,hp,rfl,rfl,hlen,hal,hsh,hown,hnx⟩:=hrel
  have HO:Hid (FM w.heap.size wr u5 acc):=hown
  clear hown
  by_cases hkn:k<=s.size
  case neg=>
   obtain rfl:k=s.size+1:=by omega
   have HL:Hid (acc.length=GI c s s.size+1):=by show _=_;rw[hlen.out,if_neg hkn]
   clear hlen
   go_wp2
   go_ret
   exact⟨_,acc,rfl,HO.out,HL.out,hsh.out,hnx⟩
  have HL:Hid (acc.length=GI c s k):=by show _=_;rw[hlen.out,if_pos hkn]
  clear hlen
  have hsl:∀W:World,(Instr.slice 9 (.string s) (some (.int .i64 (p:Int))) (some (.int .i64 (k:Int))) none).run Tryz.prog W=.ok (.string (s.extract p k)) W:=fun W=>by
   rw[run_slice_string W 9 s .i64 .i64 (p:Int) (k:Int) Tryz.underlying9 (by omega) (by omega) (by omega)]
   rfl
  obtain⟨x,hx⟩:∃z:ByteArray,z=s.extract p k:=⟨_,rfl⟩
  rw[<-hx]at hsl
  have HX:Hid (x.size<=s.size):=by show _<=_;rw[hx,ByteArray.size_extract];omega
  clear hx
  have HSh:Hid (Ll s.size (acc++[x])):=hsh.out.add HX.out
  have HN2:Hid ((acc++[x]).map Value.string=acc.map Value.string++[.string x]):=by show _=_;simp
  have HL2:Hid ((acc++[x]).length=acc.length+1):=by show _=_;simp
  have h1:=hnx.size
  by_cases hlt:k<s.size
  case neg=>
   obtain rfl:k=s.size:=by omega
   generalize acc++[x]=acc' at HSh HN2 HL2
   go_wp2_with (at_builtin;refine wpList_append_own _ rfl (.tmp 25) (.tmp 30) 29 rfl w.heap.size 9 i0 (.string ⟨#[]⟩) 1 16 Tryz.underlying29 hi hz0 hz1 hz2 rfl (by decide) _ _ _ rfl (HO.out.alloc _) ⟨wr.heap.size,0,none⟩ 1 1 [.string x] rfl rfl (Cy _ _ _) (by intro u hu;simp at hu;subst hu;rfl) (by unfold maxLen;omega) (by omega) (by simp;omega) ?_;intro v3 w3 hown3 hgrow3 hnil3)
   have hbz:=(hnx.alloc hnx.size (.cells #[.string x] 9)).grown hgrow3 (by simp;omega) (fun j hj=>(World.ownsRow.lt HO.out j hj).1)
   clear hnil3 hgrow3
   go_roundw
   case rel=>exact⟨s.size+1,s.size+1,acc',by omega,by omega,by go_num,by go_num,by show _=_;rw[if_neg (by omega),HL2.out,HL.out],by rw[HL2.out];omega,HSh.out,by unfold FM;rw[HL2.out,HN2.out];exact hown3,hbz⟩
   case measure=>simp[intOf]<;>omega
  obtain⟨b0,hb0⟩:∃b,(s[k]'hlt).toNat=b:=⟨_,rfl⟩
  have HC:Hid (GI c s (k+1)=GI c s k+(if b0=c then 1 else 0)):=by show _=_;rw[Yn c hlt,<-hb0,Je hlt]
  have hne:((k:Int)==(s.size:Int))=false:=by simp;omega
  by_cases hbc:b0=c
  ·have hc1:((b0:Int)==(c:Int))=true:=by simp;omega
   generalize acc++[x]=acc' at HSh HN2 HL2
   go_wp2_with (at_builtin;refine wpList_append_own _ rfl (.tmp 25) (.tmp 30) 29 rfl w.heap.size 9 i0 (.string ⟨#[]⟩) 1 16 Tryz.underlying29 hi hz0 hz1 hz2 rfl (by decide) _ _ _ rfl (HO.out.alloc _) ⟨wr.heap.size,0,none⟩ 1 1 [.string x] rfl rfl (Cy _ _ _) (by intro u hu;simp at hu;subst hu;rfl) (by unfold maxLen;omega) (by omega) (by simp;omega) ?_;intro v3 w3 hown3 hgrow3 hnil3)
   have hbz:=(hnx.alloc hnx.size (.cells #[.string x] 9)).grown hgrow3 (by simp;omega) (fun j hj=>(World.ownsRow.lt HO.out j hj).1)
   clear hnil3 hgrow3
   go_roundw
   case rel=>exact⟨k+1,k+1,acc',by omega,by omega,by go_num,by go_num,by show _=_;rw[if_pos (by omega),HC.out,if_pos hbc,HL2.out,HL.out],by rw[HL2.out];omega,HSh.out,by unfold FM;rw[HL2.out,HN2.out];exact hown3,hbz⟩
   case measure=>simp[intOf]<;>omega
  ·have hc1:((b0:Int)==(c:Int))=false:=by simp;omega
   clear HSh HN2 HL2
   go_wp2
   go_roundw
   case rel=>exact⟨k+1,p,acc,by omega,by omega,by go_num,rfl,by show _=_;rw[if_pos (by omega),HC.out,if_neg hbc,HL.out,Nat.add_zero],by omega,hsh.out,HO.out,hnx⟩
   case measure=>simp[intOf]<;>omega
end Go.Proofs.YtgmpfeaanjnhaaaGreatDoor
