import Derived.Laws.StructEq
import Derived.ChangeKeysEq
import Derived.Test.YtoadcnhcfodkgaaGreatDoorRows
import Derived.Deep.Slices
import Derived.ChangeSlices
import Derived.ChangeSame
import Derived.Carry
import Derived.WalkKit
import Derived.ProofKit
import Derived.OpenShut
import Derived.Lib.SmallJoins
import Derived.Lib.LaidTab
import Derived.LaidMore
import Derived.MakeChecks
import Derived.Test.YtoadcnhcfodkgaaGreatDoorU13
import Derived.Test.YtoadcnhcfodkgaaGreatDoorU08
import Derived.Test.YtoadcnhcfodkgaaGreatDoorU12
import Derived.Test.YtoadcnhcfodkgaaGreatDoorU05
import Derived.Test.YtoadcnhcfodkgaaGreatDoorU09
import Derived.Test.YtoadcnhcfodkgaaGreatDoorU07
import Derived.Test.YtoadcnhcfodkgaaGreatDoorU01
import Derived.Test.YtoadcnhcfodkgaaGreatDoorU06
set_option maxRecDepth 100000
set_option maxHeartbeats 20000000
open Go.Proofs.Tryz renaming prog→Zm
open Nat renaming not_lt_zero→Zn,add_assoc→Zv,lt_succ_self→Zx
open Bool renaming not_true→Zo,false_eq_true→Zp,and_eq_true→Zs
open Int renaming le_refl→Zq,toNat_natCast→Zw
open List renaming mem_cons→Zr,length_append→Zt,replicate→Zu,all_eq_true→Zy
namespace Go.Proofs.YtoadcnhcfodkgaaGreatDoor
section
open Go.RowKit
theorem Aq6(s:ByteArray)(p:Nat)(w:World)(h:p+8<=s.size)(hp:p<100):
    Calls Zm 177 #[.string s,.int .i64 p] w fun e w'=>e=.returned (.int .i64 (onumS s p))/\w=w':=by
 go_enter Tryz.func177,Tryz.ntmps177
 go_wp2
 go_loop [5,6] (fun r i=>∃k:Nat,k<=8/\i=.int .i64 k/\r=.int .u64 (numK s p k:Nat)) (fun _ i=>8-(intOf i).toNat)
 case atStart=>exact⟨0,by omega,rfl,rfl⟩
 case round=>
  obtain⟨k,hk,rfl,rfl⟩:=hrel
  by_cases c:k<8
  ·have hi:=GQ (s:=s) (i:=(p:Int)+(k:Int)) (n:=p+k) (by omega) (by omega)
   have hb:=Fg s (p+k)
   have ht:numK s p k<72057594037927936:=Nat.lt_of_lt_of_le (KP s p k) (show 256^k<=256^7 from Nat.pow_le_pow_right (by decide) (by omega))
   have HT:Hid (numK s p (k+1)=numK s p k*256+bt s (p+k)):=rfl
   generalize numK s p k=t at ht HT ⊢
   generalize bt s (p+k)=b at hi hb HT
   go_wp2
   go_round
   case rel=>exact⟨k+1,by omega,by go_num,by rw[HT.out];go_num⟩
   case measure=>simp[intOf];omega
  ·obtain rfl:k=8:=by omega
   have HT:Hid (onumS s p=IntKind.i64.wrap (numK s p 8:Nat)):=rfl
   have hl:=KP s p 8
   generalize numK s p 8=t at HT hl ⊢
   go_wp2
   go_ret
   exact⟨by rw[HT.out,IntWalk.i64_left];rfl,rfl⟩
def Eig(s:ByteArray)(i:Int):Prop:=0<=i/\i<100/\i.toNat+8<=s.size
def Po:Ct Zm:=FO Zm 177 (Ac cS (Aa cI)) (fun x K=>Eig x.1 x.2/\K (.int .i64 (onumS x.1 x.2.toNat))) (fun _ _ _ hK hs=>⟨hs.1,hK _ hs.2⟩) (Ae Tryz.func177 (by kernel_rfl) (by kernel_rfl))
 (fun x w _ K hs=>by
  obtain⟨s,i⟩:=x
  obtain⟨⟨h0,h1,h2⟩,hk⟩:=hs
  dsimp only at h0 h1 h2 hk
  obtain⟨p,rfl⟩:∃p:Nat,i=p:=⟨i.toNat,by omega⟩
  rw[Zw]at h2 hk
  refine Calls.mono (Aq6 s p w h2 (by omega)) ?_
  rintro e w' ⟨rfl,rfl⟩
  exact⟨_,rfl,rfl,hk,Below.refl _ _⟩)
def t7G(x:Tup 7):Nat->Int
 |0=>x.1
 |1=>x.2.1
 |2=>x.2.2.1
 |3=>x.2.2.2.1
 |4=>x.2.2.2.2.1
 |5=>x.2.2.2.2.2.1
 |_=>x.2.2.2.2.2.2.1
theorem Ahs(x:Tup 7):Nx.dRightW (t7G x)=EM (TY x):=by
 unfold Nx.dRightW EM
 by_cases c1:x.2.1<0
 ·rw[if_pos (show t7G x 1<0 from c1),if_pos (show(TY x).2.1<0 from c1)]
 rw[if_neg (show ¬t7G x 1<0 from c1),if_neg (show ¬(TY x).2.1<0 from c1)]
 by_cases c2:x.2.1>109951162777
 ·rw[if_pos (show t7G x 1>109951162777 from c2),if_pos (show(TY x).2.1>109951162777 from c2)]
 rw[if_neg (show ¬t7G x 1>109951162777 from c2),if_neg (show ¬(TY x).2.1>109951162777 from c2)]
 have e1:IntKind.i64.wrap (1099511627776-t7G x 1)=1099511627776-x.2.1:=by
  show IntKind.i64.wrap (1099511627776-x.2.1)=_
  rw[IntKind.wrap_i64];omega
 have e2:IntKind.i64.wrap (1099511627776+t7G x 1)=1099511627776+x.2.1:=by
  show IntKind.i64.wrap (1099511627776+x.2.1)=_
  rw[IntKind.wrap_i64];omega
 have e3:Nx.tickW (t7G x 6)=cRight (t7G x 6):=by
  unfold Nx.tickW cRight
  by_cases h:0<=t7G x 6
  ·rw[if_pos h,decide_eq_true h];rfl
  ·rw[if_neg h,decide_eq_false h];rfl
 unfold Nx.farW
 rw[e1,e2,e3]
 rfl
theorem Ayx:Ah Zm 67 (Aa (cT 7)) (fun x=>EM (TY x)) cB:=fun x w hw=>by
 have h:=Nx.dRight_ok (t7G x) w hw
 rw[Ahs]at h
 exact h
def It:Ct Zm:=Aq Zm 67 (Aa (cT 7)) (fun x=>EM (TY x)) cB (Ae Tryz.func67 (by kernel_rfl) (by kernel_rfl)) Ayx
theorem Mz(s:ByteArray)(h:s=⟨⟨[]⟩⟩∨∃b,s=⟨⟨[b]⟩⟩)(w:World)(hw:GW w):Calls Zm 63 ((Aa AU).enc (16,s)).toArray w fun e w'=>e=.returned (Cp.enc (IW 0 0 1))/\Below w.heap.size w w':=by
 rcases h with rfl |⟨b,rfl⟩
 ·refine Bj (d:=Aa AU) (k:=Cp) (x:=(16,⟨⟨[]⟩⟩)) (y:=IW 0 0 1) (tbl:=[Po,It]) (dirty:=fun _=>[]) (n:=4) xmixA Tryz.func63 rfl (fun Post hP=>?_) w hw
  exact Eq.mpr (β:=PJ Cp Post (IW 0 0 1)) (by kernel_rfl) hP
 ·refine Bj (d:=Aa AU) (k:=Cp) (x:=(16,⟨⟨[b]⟩⟩)) (y:=IW 0 0 1) (tbl:=[Po,It]) (dirty:=fun _=>[]) (n:=4) xmixA Tryz.func63 rfl (fun Post hP=>?_) w hw
  exact Eq.mpr (β:=PJ Cp Post (IW 0 0 1)) (by kernel_rfl) hP
def Aht(s:ByteArray):Tup 7:=(onumS s (2:Int).toNat,onumS s (10:Int).toNat,onumS s (18:Int).toNat,onumS s (26:Int).toNat,onumS s (34:Int).toNat,onumS s (42:Int).toNat,onumS s (50:Int).toNat,())
def rrE(q c:Int)(s:ByteArray)(Post:Value->Prop):Prop:=
 Eig s 2/\Eig s 10/\Eig s 18/\Eig s 26/\Eig s 34/\Eig s 42/\Eig s 50/\AE (!EM (TY (Aht s))) (PJ Cp Post (IW q 0 3)) (PJ Cp Post ((q,c,Aht s),0))
def rrL(q c:Int)(s:ByteArray)(Post:Value->Prop)(long:Int):Prop:=
 AE (!decide ((s.size:Int)=long)) (PJ Cp Post (IW q 0 1)) (AE (decide (c=3)) (rrE q c s Post) (PJ Cp Post (IW q c 0)))
def rrB(q c:Int)(s:ByteArray)(Post:Value->Prop):Prop:=
 AE (decide ((s.size:Int)<2)) (PJ Cp Post (IW 0 0 1)) (AE (decide (c<1)) (PJ Cp Post (IW q 0 2)) (AE (decide (c>4)) (PJ Cp Post (IW q 0 2)) (AE (decide (c=3)) (rrL q c s Post 58) (rrL q c s Post 2))))
theorem AHa(b0 b1:UInt8)(rest:List UInt8)(y:Tup 9×Int)(w:World)(hw:GW w)(h:∀Post:Value->Prop,PJ Cp Post y->rrB (bI b0) (bI b1) ⟨⟨b0::b1::rest⟩⟩ Post):Calls Zm 63 ((Aa AU).enc (16,⟨⟨b0::b1::rest⟩⟩)).toArray w fun e w'=>e=.returned (Cp.enc y)/\Below w.heap.size w w':=by
 refine Bj (d:=Aa AU) (k:=Cp) (x:=(16,⟨⟨b0::b1::rest⟩⟩)) (y:=y) (tbl:=[Po,It]) (dirty:=fun _=>[]) (n:=4) xmixA Tryz.func63 rfl (fun Post hP=>?_) w hw
 exact Eq.mpr (β:=rrB (bI b0) (bI b1) ⟨⟨b0::b1::rest⟩⟩ Post) (by kernel_rfl) (h Post hP)
theorem Ayy(s:ByteArray)(w:World)(hw:GW w):Calls Zm 63 ((Aa AU).enc (16,s)).toArray w fun e w'=>e=.returned (Cp.enc (oreadT (16,s)))/\Below w.heap.size w w':=by
 obtain⟨⟨l⟩⟩:=s
 match l with
 |[]=>exact Mz _ (.inl rfl) w hw
 |[b]=>exact Mz _ (.inr ⟨b,rfl⟩) w hw
 | b0::b1::rest=>
  refine AHa b0 b1 rest _ w hw (fun Post hP=>?_)
  have e0:bI b0=(bt ⟨⟨b0::b1::rest⟩⟩ 0:Nat):=Wv b0
  have e1:bI b1=(bt ⟨⟨b0::b1::rest⟩⟩ 1:Nat):=Wv b1
  have hs:2<=(⟨⟨b0::b1::rest⟩⟩:ByteArray).size:=by show 2<=rest.length+1+1;omega
  generalize (⟨⟨b0::b1::rest⟩⟩:ByteArray)=s at *
  rw[e0,e1]
  generalize hq:((bt s 0:Nat):Int)=q at *
  generalize hc:((bt s 1:Nat):Int)=c at *
  have hO:oreadT (16,s)=if c<1 then IW q 0 2 else if c>4 then IW q 0 2 else if (s.size:Int)≠(if c=3 then 58 else 2)then IW q 0 1 else if c=3 then(if EM (TY (Aht s))then((q,c,Aht s),0)else IW q 0 3)else IW q c 0:=by
   have hE:TY (Aht s)=Ahh s:=rfl
   unfold oreadT Cs
   dsimp only
   rw[hq,hc,if_neg (show ¬s.size<2 by omega),if_neg (show ¬(16:Int)≠16 by decide),hE,Zi]
   by_cases h1:c<1
   ·have hz:D4 c=0:=by unfold D4;rw[if_neg (by omega),if_neg (by omega)]
    rw[if_pos hz,if_pos h1];rfl
   rw[if_neg h1]
   by_cases h4:c>4
   ·have hz:D4 c=0:=by unfold D4;rw[if_neg (by omega),if_neg (by omega)]
    rw[if_pos hz,if_pos h4];rfl
   rw[if_neg h4]
   by_cases h3:c=3
   ·subst h3
    have hz:D4 3=58:=rfl
    rw[hz,if_neg (show ¬(58:Int)=0 by decide),if_pos rfl,if_pos rfl,if_neg (show ¬(3:Int)≠3 by decide)]
    by_cases hl:(s.size:Int)≠58
    ·rw[if_pos hl,if_pos hl];rfl
    rw[if_neg hl,if_neg hl]
    cases De (Ahh s)
    ·rfl
    ·rfl
   ·have hz:D4 c=2:=by unfold D4;rw[if_pos (by omega)]
    rw[hz,if_neg (show ¬(2:Int)=0 by decide),if_neg h3,if_neg h3,if_pos h3]
    by_cases hl:(s.size:Int)≠2
    ·rw[if_pos hl,if_pos hl];rfl
    rw[if_neg hl,if_neg hl]
    rfl
  rw[hO]at hP
  clear hO
  unfold rrB
  rw[decide_eq_false (show ¬(s.size:Int)<2 by omega)]
  by_cases h1:c<1
  ·rw[decide_eq_true h1];rw[if_pos h1]at hP;exact hP
  rw[decide_eq_false h1];rw[if_neg h1]at hP
  by_cases h4:c>4
  ·rw[decide_eq_true h4];rw[if_pos h4]at hP;exact hP
  rw[decide_eq_false h4];rw[if_neg h4]at hP
  by_cases h3:c=3
  ·rw[decide_eq_true h3];rw[if_pos h3,if_pos h3]at hP
   show rrL q c s Post 58
   unfold rrL
   by_cases hl:(s.size:Int)=58
   ·rw[decide_eq_true hl,decide_eq_true h3];rw[if_neg (fun k=>k hl)]at hP
    have g:∀i:Int,0<=i->i<=50->Eig s i:=fun i h0 h1=>⟨h0,by omega,by omega⟩
    refine⟨g _ (by decide) (by decide),g _ (by decide) (by decide),g _ (by decide) (by decide),g _ (by decide) (by decide),g _ (by decide) (by decide),g _ (by decide) (by decide),g _ (by decide) (by decide),?_⟩
    cases hr:EM (TY (Aht s))
    ·rw[hr]at hP;exact hP
    ·rw[hr]at hP;exact hP
   ·rw[decide_eq_false hl];rw[if_pos hl]at hP;exact hP
  ·rw[decide_eq_false h3];rw[if_neg h3,if_neg h3]at hP
   show rrL q c s Post 2
   unfold rrL
   by_cases hl:(s.size:Int)=2
   ·rw[decide_eq_true hl,decide_eq_false h3];rw[if_neg (fun k=>k hl)]at hP;exact hP
   ·rw[decide_eq_false hl];rw[if_pos hl]at hP;exact hP
end
section
open Go.RowKit
def AHb:Ct Zm:=Ak Zm 65 (Ac cI (Ac cI (Aa cI))) (fun bad x=>Af bad x.1 x.2.1 x.2.2) cI (Ae Tryz.func65 (by kernel_rfl) (by kernel_rfl)) (fun b bad x w _ _ hw=>F7 b bad x.1 x.2.1 x.2.2 w hw)
def rcG(n:Int)(K Z:Prop):Prop:=AE (decide (n≥-32768)) (AE (decide (n<=32767)) K Z) Z
theorem Aq8(n:Int)(K Z:Prop):rcG n K Z=AE (BX n (-32768) 32767) K Z:=by
 unfold rcG BX
 cases decide (n<=32767)<;>by_cases h:-32768<=n
 ·rw[decide_eq_true h];rfl
 ·rw[decide_eq_false h];rfl
 ·rw[decide_eq_true h];rfl
 ·rw[decide_eq_false h];rfl
def rcH(n:Int)(K Z:Prop):Prop:=AE (decide (n≥-32768)) (AE (!decide (n<=32767)) Z K) Z
theorem AHc(n:Int)(K Z:Prop):rcH n K Z=AE (BX n (-32768) 32767) K Z:=by
 rw[<-Aq8]
 unfold rcG rcH
 cases decide (n<=32767)<;>rfl
def rcV(q:Tup 4)(m:Tup 3)(K:Tup 4×Tup 3->Prop):Prop:=
 let p0:=Af false q.1 1 67108864
 let p1:=Af p0.2 q.2.1 1 67108864
 let p2:=Af p1.2 q.2.2.1 1 67108864
 let p3:=Af p2.2 q.2.2.2.1 1 67108864
 let p4:=Af p3.2 m.1 10000 1099511627776
 let p5:=Af p4.2 m.2.1 10000 1099511627776
 let p6:=Af p5.2 m.2.2.1 10000 1099511627776
 let Z:=K (Pk ((0,0,0,0),(0,0,0)))
 rcG p0.1 (rcG p1.1 (rcG p2.1 (rcG p3.1 (rcG p4.1 (rcG p5.1 (rcH p6.1 (AE p6.2 Z (K (Pk ((p0.1,p1.1,p2.1,p3.1),(p4.1,p5.1,p6.1))))) Z) Z) Z) Z) Z) Z) Z
theorem AHd(b0 b1 b2 b3 b4 b5 b6 f:Bool){α:Type}(K:α->Prop)(x z:α):AE b0 (AE b1 (AE b2 (AE b3 (AE b4 (AE b5 (AE b6 (AE f (K z) (K x)) (K z)) (K z)) (K z)) (K z)) (K z)) (K z)) (K z)=K (if b0&&b1&&b2&&b3&&b4&&b5&&b6&& !f then x else z):=by
 cases b0
 ·rfl
 cases b1
 ·rfl
 cases b2
 ·rfl
 cases b3
 ·rfl
 cases b4
 ·rfl
 cases b5
 ·rfl
 cases b6
 ·rfl
 cases f<;>rfl
theorem AHe(q:Tup 4)(m:Tup 3)(K:Tup 4×Tup 3->Prop):rcV q m K=K (Pk (WI (qT q) (mT m))):=by
 rw[AGr]
 unfold rcV tlD
 dsimp only
 simp only[Aq8,AHc]
 rw[AHd _ _ _ _ _ _ _ _ (fun r=>K (Pk r))]
theorem ZJ:Ah Zm 33 (Ac (cT 4) (Aa (cT 3))) (fun x=>Pk (WI (qT x.1) (mT x.2))) (Au (cT 4) (cT 3)):=Av (tbl:=[AHb]) (dirty:=fun _=>[]) (n:=6) xmixA Tryz.func33 rfl (fun x Post=>by
    rw[<-AHe x.1 x.2 (PJ (Au (cT 4) (cT 3)) Post)]
    kernel_rfl)
theorem Ahu:Ah Zm 33 (Ac (cT 4) (Aa (cT 3))) KQ (Au (cT 4) (cT 3)):=ZJ
theorem Aq9:Ah Zm 34 (Aa (cT 13)) Is (Au AU cB):=fun x w hw=>Aqr (tlOf x) w hw
theorem Ay0:Ah Zm 35 (Aa AU) KR (Au cS cB):=Ahp.2
theorem Ara:Ah Zm 62 (Ac (cT 5) (Aa cI)) Md cB:=by
 have e:Md=fresA:=Ac2
 rw[e]
 exact ZI.2
theorem Ay1:Ah Zm 61 (Aa AU) BI (Au (cT 5) cB):=fun x w hw=>Aq5 x.1 x.2 w hw
def oreadD(x:Fra):Tup 9×Int:=if x.1=16 then oreadT x else IW 0 0 1
def Arb(k:Int)(s:ByteArray):Prop:=∀w,GW w->Calls Zm 63 ((Aa AU).enc (k,s)).toArray w fun e w'=>e=.returned (Cp.enc (IW 0 0 1))/\Below w.heap.size w w'
theorem TQ{k:Int}{s:ByteArray}(h:∀Post:Value->Prop,Hm Zm [Po,It] (fun _=>[]) 4 (An Zm 63) (Bz Zm (Ba Zm 63) (fun v _=>Post v)) ((Aa AU).enc (k,s)++Zu ((Ba Zm 63).ntmps-1) undef) []=PJ Cp Post (IW 0 0 1)):Arb k s:=fun w hw=>
 Bj (d:=Aa AU) (k:=Cp) (x:=(k,s)) (y:=IW 0 0 1) (tbl:=[Po,It]) (dirty:=fun _=>[]) (n:=4) xmixA (f:=63) (fn:=Ba Zm 63) (c:=An Zm 63) (by kernel_rfl) (by kernel_rfl) (fun Post hP=>Eq.mpr (h Post) hP) w hw
theorem AHf(n:Nat)(s:ByteArray):Arb (.negSucc n) s:=TQ (fun Post=>by kernel_rfl)
theorem AHg(n:Nat)(s:ByteArray):Arb (.ofNat (n+17)) s:=TQ (fun Post=>by kernel_rfl)
theorem AHh{n:Nat}(hn:n<16)(s:ByteArray):Arb (.ofNat n) s:=by
 obtain rfl |rfl |rfl |rfl |rfl |rfl |rfl |rfl |rfl |rfl |rfl |rfl |rfl |rfl |rfl |rfl:n=0∨n=1∨n=2∨n=3∨n=4∨n=5∨n=6∨n=7∨n=8∨n=9∨n=10∨n=11∨n=12∨n=13∨n=14∨n=15:=by omega
 all_goals exact TQ (fun Post=>by kernel_rfl)
theorem Arc(k:Int)(s:ByteArray)(hk:k≠16):Arb k s:=by
 cases k with
 |negSucc n=>exact AHf n s
 | ofNat n=>
  have h:n≠16:=fun e=>hk (by rw[e];rfl)
  by_cases h1:n<16
  ·exact AHh h1 s
  ·obtain⟨m,rfl⟩:∃m,n=m+17:=⟨n-17,by omega⟩
   exact AHg m s
theorem Ard:Ah Zm 63 (Aa AU) oreadD (Au (cT 9) cI):=fun x w hw=>by
 obtain⟨k,s⟩:=x
 unfold oreadD
 by_cases h:k=16
 ·subst h
  rw[if_pos rfl]
  exact Ayy s w hw
 ·rw[if_neg h]
  exact Arc k s h w hw
theorem Ay2:∃F D:Fs,FsIs F/\DsOk D/\Ft F D/\EB F:=by
 obtain⟨F,D,h1,h2,h3,e1,e2,e3,e4,e5,e6,e7,e8,_⟩:=join (right:=cRight) (next:=Ir) (counts:=KQ) (write:=Is) (wrap:=KR) (read:=BI) (fresh:=Md) (oread:=oreadT) (oreadD:=oreadD)
  ⟨⟨Aqv,fun x w _=>Pm x w⟩,Ahn,⟨Ahk,Ahu⟩,⟨Aqw,Aq9⟩,⟨Ayo,Ay0⟩,⟨Ayn,Ay1⟩,⟨fresh_ok,Ara⟩,⟨Aqx,Ard,fun f h=>if_pos h⟩,Nx.sky_ag⟩
 exact⟨F,D,⟨h1,e1,e2,e3,e4,e5,e6,e7,e8⟩,h2,h3,Aq1 e2⟩
structure ZK(q:Pl):Prop where
 c:Cq q.calm
 g:Cq q.good
 i:Cq q.miss
 l:Cq q.lost
 m0:0<=q.mode
 m3:q.mode<=3
 f0:0<=q.faults
 f9:q.faults<=15
theorem Et:Cq 0:=⟨by decide,by decide⟩
theorem AHi:∀n:Fin 16,∀x∈([1,2,4,8]:List Int),0<=bits .or .i64 (n.val:Int) x/\bits .or .i64 (n.val:Int) x<=15:=by decide+kernel
theorem AMr{f x:Int}(h0:0<=f)(h1:f<=15)(hx:x∈([1,2,4,8]:List Int)):0<=bits .or .i64 f x/\bits .or .i64 f x<=15:=by
 obtain⟨n,rfl⟩:∃n:Nat,f=n:=⟨f.toNat,by omega⟩
 exact AHi ⟨n,by omega⟩ x hx
theorem Wz{n:Int}(b:Bool):Cq (Cw n b):=by
 unfold Cw
 cases b
 ·exact Et
 ·simp only[if_true]
  split
  ·exact⟨by decide,by decide⟩
  ·rw[IntKind.wrap_i64]
   exact⟨by omega,by omega⟩
theorem ZK.go{q:Pl}(h:ZK q)(k:Int)(h0:0<=k)(h3:k<=3):ZK (Za k q):=⟨Et,Et,Et,Et,h0,h3,h.f0,h.f9⟩
theorem ZK.fail{q:Pl}(h:ZK q)(x:Int)(hx:x∈([1,2,4,8]:List Int)):ZK (Dd x q):=by
 have u:=AMr h.f0 h.f9 hx
 exact⟨Et,Et,Et,Et,show(0:Int)<=1 by decide,show(1:Int)<=3 by decide,u.1,u.2⟩
theorem ZK.step{q:Pl}(h:ZK q)(s:Sn):ZK (nextW q s):=by
 unfold nextW Pd
 split
 ·exact h.go 3 (by decide) (by decide)
 split
 ·unfold Rh;split
  ·exact⟨Et,Et,Et,Et,Zq 0,show(0:Int)<=3 by decide,Zq 0,show(0:Int)<=15 by decide⟩
  ·exact h
 split
 ·unfold Zb;split
  ·exact h.go 1 (by decide) (by decide)
  ·exact⟨Wz _,h.g,h.i,h.l,h.m0,h.m3,h.f0,h.f9⟩
 split
 ·cases s.gap
  ·simp only[cond_false]
   unfold TA
   cases (s.gyro&& !s.slow)
   ·simp only[cond_false]
    split
    ·exact h.go 2 (by decide) (by decide)
    ·exact⟨h.c,Wz _,h.i,h.l,h.m0,h.m3,h.f0,h.f9⟩
   ·exact h.go 0 (by decide) (by decide)
  ·exact h.fail 1 (by decide)
 split
 ·cases s.gap
  ·simp only[cond_false]
   unfold MK
   cases s.bad
   ·simp only[cond_false]
    split
    ·exact h.fail 2 (by decide)
    cases (s.pair&&s.lit)
    ·exact⟨h.c,h.g,h.i,Wz _,h.m0,h.m3,h.f0,h.f9⟩
    ·simp only[cond_true]
     split
     ·exact h.fail 8 (by decide)
     ·exact⟨h.c,h.g,Wz _,Wz _,h.m0,h.m3,h.f0,h.f9⟩
   ·exact h.fail 4 (by decide)
  ·exact h.fail 1 (by decide)
 ·exact h.go 3 (by decide) (by decide)
abbrev Cj(c:Cra):Tup 6:=c.2.2.2.1
abbrev Ha(c:Cra):Dri:=c.2.2.2.2.2.2.1
abbrev KT(c:Cra):Tup 43:=c.2.2.2.2.2.2.2.1
abbrev KU(c:Cra):Tup 3:=c.2.2.2.2.2.2.2.2
structure AkI(a:Tup 3):Prop where
 a0:0<=a.1
 a1:a.1<=255
 e0:0<=a.2.1
 e1:a.2.1<=255
 r0:0<=a.2.2.1
 r1:a.2.2.1<=65535
theorem Are{n:Int}(h0:0<=n)(h1:n<=65535):0<=Vk n/\Vk n<=65535:=by
 unfold Vk
 split
 ·exact⟨by decide,by decide⟩
 ·rw[IntKind.wrap_i64]
  constructor<;>omega
theorem AHj(k:Int)(s:ByteArray):0<=(Cs k s).1.1/\(Cs k s).1.1<=255/\0<=(Cs k s).2/\(Cs k s).2<=255:=by
 have hb:(0:Int)<=(bt s 0:Nat)/\((bt s 0:Nat):Int)<=255:=by
  have:=Fg s 0
  omega
 unfold Cs
 split
 ·exact⟨by decide,by decide,by decide,by decide⟩
 split
 ·exact⟨hb.1,hb.2,by dsimp only;decide,by dsimp only;decide⟩
 split
 ·exact⟨hb.1,hb.2,by dsimp only;decide,by dsimp only;decide⟩
 split
 ·exact⟨hb.1,hb.2,by dsimp only;decide,by dsimp only;decide⟩
 split
 ·exact⟨hb.1,hb.2,by dsimp only;decide,by dsimp only;decide⟩
 split
 ·exact⟨hb.1,hb.2,by dsimp only;decide,by dsimp only;decide⟩
 ·exact⟨hb.1,hb.2,by dsimp only;decide,by dsimp only;decide⟩
def AHk(p:Tup 6):Tup 6:=(p.1,p.2.1,p.2.2.1,p.2.2.2.1,p.2.2.2.2.1,0,())
structure JL(c0:Cra)(l:ByteArray)(c:Cra):Prop where
 on:c.1=c0.1
 tick:c.2.1=c0.2.1
 left:c.2.2.1=l
 plan:Cj c=Cj c0∨Cj c=AHk (Cj c0)
 dri:Ha c=Ha c0
 gue:KT c=KT c0
 ak:AkI (KU c)
theorem JL.rej{c0 c:Cra}{l:ByteArray}(h:JL c0 l c):JL c0 l (rejC c):=
 ⟨h.on,h.tick,h.left,h.plan,h.dri,h.gue,⟨h.ak.a0,h.ak.a1,h.ak.e0,h.ak.e1,(Are h.ak.r0 h.ak.r1).1,(Are h.ak.r0 h.ak.r1).2⟩⟩
theorem JL.ack{c0 c:Cra}{l:ByteArray}(h:JL c0 l c){q e:Int}(q0:0<=q)(q1:q<=255)(e0:0<=e)(e1:e<=255):JL c0 l (Ga c q e):=
 ⟨h.on,h.tick,h.left,h.plan,h.dri,h.gue,⟨q0,q1,e0,e1,h.ak.r0,h.ak.r1⟩⟩
theorem JL.orb{c0 c:Cra}{l:ByteArray}(h:JL c0 l c)(o:Tup 7):JL c0 l (Auz c o):=⟨h.on,h.tick,h.left,h.plan,h.dri,h.gue,h.ak⟩
theorem JL.clr{c0 c:Cra}{l:ByteArray}(h:JL c0 l c):JL c0 l (Au0 c):=by
 refine⟨h.on,h.tick,h.left,.inr ?_,h.dri,h.gue,⟨h.ak.a0,h.ak.a1,h.ak.e0,h.ak.e1,Zq 0,show(0:Int)<=65535 by decide⟩⟩
 show AHk (Cj c)=_
 rcases h.plan with e |e<;>rw[e]
 rfl
def Pp(x:Hea):Prop:=x.2.2.2=0∨x.2.2.2=1∨x.2.2.2=2
section
variable {F:Fs}
theorem JL.sen{c0 c:Cra}{l:ByteArray}(h:JL c0 l c)(x:Hea)(f:Fra)(t:Int)(ho:Pp x):JL c0 l (senW F c x f t).1/\Pp (senW F c x f t).2:=by
 unfold senW
 split
 ·exact⟨h.rej,ho⟩
 split
 ·exact⟨h.rej,ho⟩
 split
 ·exact⟨h,ho⟩
 split
 ·exact⟨h,ho⟩
 split
 ·exact⟨h,ho⟩
 ·exact⟨h,ho⟩
theorem JL.ord{c0 c:Cra}{l:ByteArray}(h:JL c0 l c)(x:Hea)(f:Fra)(ho:Pp x):JL c0 l (ordC c x (oreadT f)).1/\Pp (ordC c x (oreadT f)).2:=by
 obtain⟨q0,q1,e0,e1⟩:=AHj f.1 f.2
 have ha:JL c0 l (Ga c (oreadT f).1.1 (oreadT f).2):=h.ack q0 q1 e0 e1
 generalize oreadT f=o at ha ⊢
 unfold ordC
 split
 ·exact⟨ha.rej,ho⟩
 split
 ·rename_i e
  exact⟨ha,.inr (.inl (of_decide_eq_true e))⟩
 split
 ·rename_i e
  exact⟨ha,.inr (.inr (of_decide_eq_true e))⟩
 split
 ·exact⟨ha.orb _,ho⟩
 split
 ·exact⟨ha.clr,ho⟩
 ·exact⟨ha,ho⟩
theorem JL.hear(hF:FsIs F){c0:Cra}{l:ByteArray}(t:Int)(s:Cra×Hea)(f:Fra)(h:JL c0 l s.1/\Pp s.2):JL c0 l (Dv F t s f).1/\Pp (Dv F t s f).2:=by
 unfold Dv
 split
 ·exact h.1.sen s.2 f t h.2
 split
 ·exact h.1.sen s.2 f t h.2
 split
 ·exact h.1.sen s.2 f t h.2
 split
 ·rw[hF.oread]
  exact h.1.ord s.2 f h.2
 ·exact⟨h.1.rej,h.2⟩
end
theorem JL.all{F:Fs}(hF:FsIs F){c0:Cra}{l:ByteArray}(t:Int):∀(fs:List Fra) (s:Cra×Hea),JL c0 l s.1/\Pp s.2->JL c0 l (fs.foldl (Dv F t) s).1/\Pp (fs.foldl (Dv F t) s).2
 |[],_,h=>h
 |f::fs,s,h=>JL.all hF t fs (Dv F t s f) (JL.hear hF t s f h)
theorem Pq{F:Fs}(hF:FsIs F)(c:Cra)(ha:AkI (KU c))(t:Int)(b:ByteArray):JL c (restOf (c.2.2.1++b).data.toList) (takeW F c t b).1/\Pp (takeW F c t b).2:=by
 unfold takeW
 refine JL.all hF t _ _ ⟨?_,.inl rfl⟩
 have h:JL c (restOf (c.2.2.1++b).data.toList) (Mn c (restOf (c.2.2.1++b).data.toList)):=⟨rfl,rfl,rfl,.inl rfl,rfl,rfl,ha⟩
 unfold XP
 split
 ·exact h.rej
 ·exact h
theorem JH(F:Fs)(s:See)(g:Tup 43)(b pass:Bool):(LB F s g b pass).2.1=s.1/\(LB F s g b pass).2.2.2.2.2.2.2.2=s.2.2.2.2.2.2.2:=by
 unfold LB
 split
 ·exact⟨rfl,rfl⟩
 ·exact⟨rfl,rfl⟩
theorem Ps(F:Fs)(s:See)(x:Hea)(y:Sky)(r:Tup 43×Bool):(Oh F s x y r).2.1=s.1/\(Oh F s x y r).2.2.2.2.2.2.2.2=s.2.2.2.2.2.2.2:=by
 unfold Oh
 split
 ·split
  ·exact JH ..
  ·exact JH ..
 ·exact JH ..
theorem ZL(F:Fs)(g:Tup 43)(s:See)(ms:Int)(x:Hea)(y:Sky):(Oi F g s ms x y).2.1=s.1/\(Oi F g s ms x y).2.2.2.2.2.2.2.2=s.2.2.2.2.2.2.2:=by
 unfold Oi
 split
 ·exact Ps ..
 ·exact Ps ..
theorem ZM(F:Fs)(c:Cra)(t:Int)(x:Hea)(y:Sky):(decW F c t x y).1= !DL c t/\(decW F c t x y).2.2.2.2.2.2.2=x.2.2.2:=by
 unfold decW
 split
 ·split
  ·exact⟨rfl,rfl⟩
  ·exact⟨rfl,rfl⟩
 ·split
  ·exact⟨rfl,rfl⟩
  ·exact⟨rfl,rfl⟩
theorem Arf(F:Fs)(c:Cra)(x:Hea)(t:Int):∃g s,goW F c x t=IT F (setGue c g) s x (skyW F c t) t/\s.1= !DL c t/\s.2.2.2.2.2.2.2=x.2.2.2:=by
 have hd:=ZM F c t x (skyW F c t)
 unfold goW
 split
 ·split
  ·have hf:=ZL F c.2.2.2.2.2.2.2.1 (decW F c t x (skyW F c t)) (IntKind.i64.wrap (t-c.2.1)) x (skyW F c t)
   exact⟨_,_,rfl,hf.1.trans hd.1,hf.2.trans hd.2⟩
  ·exact⟨KT c,_,rfl,hd.1,hd.2⟩
 ·exact⟨KT c,_,rfl,hd.1,hd.2⟩
theorem Ay3(F:Fs)(p a b:Tup 6):(Km F p a b).1=p∨(Km F p a b).1=(1,0,0,0,0,XG p.2.2.2.2.2.1,()):=by
 unfold Km
 split
 ·exact .inr rfl
 ·exact .inl rfl
theorem Ac4{F:Fs}(hF:FsIs F)(c:Cra)(s:See)(x:Hea)(y:Sky):
    (planW F c s x y).1=Ir (Cj c,s)∨((Ir (Cj c,s)).1=2/\(Cj c).1≠2/\(planW F c s x y).1=(1,0,0,0,0,XG (Ir (Cj c,s)).2.2.2.2.2.1,())):=by
 unfold planW
 rw[hF.next]
 split
 ·exact .inl rfl
 rename_i h2
 split
 ·exact .inl rfl
 rename_i h3
 rcases Ay3 F (Ir (Cj c,s)) y.2.2 (Bm x)with e |e
 ·exact .inl e
 ·refine .inr ⟨?_,?_,e⟩
  ·simpa using h2
  ·simpa using h3
theorem Ay4{F:Fs}(hF:FsIs F){c:Cra}(h:ZK (ZG (Cj c)))(s:See)(x:Hea)(y:Sky):ZK (ZG (planW F c s x y).1):=by
 have hn:ZK (ZG (Ir (Cj c,s))):=h.step (Ahj s)
 rcases Ac4 hF c s x y with e |⟨_,_,e⟩
 ·rw[e]
  exact hn
 ·rw[e]
  exact hn.fail 4 (by decide)
theorem JI(r:Int×Bool):BX (Ni r).1 (-32768) 32767=true:=by
 unfold Ni
 split
 ·assumption
 ·rfl
theorem AHl(q:Int×Int×Int×Int)(m:V3):BX (WI q m).1.1 (-32768) 32767=true/\BX (WI q m).1.2.1 (-32768) 32767=true/\BX (WI q m).1.2.2.1 (-32768) 32767=true/\BX (WI q m).1.2.2.2 (-32768) 32767=true/\BX (WI q m).2.1 (-32768) 32767=true/\BX (WI q m).2.2.1 (-32768) 32767=true/\BX (WI q m).2.2.2 (-32768) 32767=true:=by
 unfold WI
 dsimp only
 split
 ·exact⟨rfl,rfl,rfl,rfl,rfl,rfl,rfl⟩
 ·exact⟨JI _,JI _,JI _,JI _,JI _,JI _,JI _⟩
structure He(c:Cra):Prop where
 t:cRight c.2.1=true
 p:ZK (ZG (Cj c))
 off:c.1=false->(Cj c).1=0
 ak:AkI (KU c)
theorem He.zero:He zeroCra:=⟨rfl,⟨Et,Et,Et,Et,Zq 0,show(0:Int)<=3 by decide,Zq 0,show(0:Int)<=15 by decide⟩,fun _=>rfl,⟨Zq 0,show(0:Int)<=255 by decide,Zq 0,show(0:Int)<=255 by decide,Zq 0,show(0:Int)<=65535 by decide⟩⟩
def telF(F:Fs)(c:Cra):Tel:=Aeu c (KQ (q4T (KT c),F9 F c))
theorem Arh(F:Fs){c:Cra}(h:He c):EA (tlOf (telF F c))=true:=by
 obtain⟨h1,h2,h3,h4,h5,h6,h7⟩:=AHl ((q4T (KT c)).1,(q4T (KT c)).2.1,(q4T (KT c)).2.2.1,(q4T (KT c)).2.2.2.1) ((F9 F c).1,(F9 F c).2.1,(F9 F c).2.2.1)
 have a:=h.t
 have b:BX (Cj c).1 0 3=true:=IM.2 ⟨h.p.m0,h.p.m3⟩
 have d:BX (Cj c).2.2.2.2.2.1 0 15=true:=IM.2 ⟨h.p.f0,h.p.f9⟩
 have e:BX (KU c).1 0 255=true:=IM.2 ⟨h.ak.a0,h.ak.a1⟩
 have f:BX (KU c).2.1 0 255=true:=IM.2 ⟨h.ak.e0,h.ak.e1⟩
 have g:BX (KU c).2.2.1 0 65535=true:=IM.2 ⟨h.ak.r0,h.ak.r1⟩
 show(cRight c.2.1&&BX (Cj c).1 0 3&&BX (Cj c).2.2.2.2.2.1 0 15&&BX (KU c).1 0 255&&BX (KU c).2.1 0 255&&BX (KU c).2.2.1 0 65535&&_&&_&&_&&_&&_&&_&&_)=true
 rw[a,b,d,e,f,g]
 exact(congrArg (fun z=>z&&_&&_&&_&&_&&_&&_) h1).trans ((congrArg (fun z=>z&&_&&_&&_&&_&&_) h2).trans ((congrArg (fun z=>z&&_&&_&&_&&_) h3).trans ((congrArg (fun z=>z&&_&&_&&_) h4).trans ((congrArg (fun z=>z&&_&&_) h5).trans ((congrArg (fun z=>z&&_) h6).trans h7)))))
def AHm(T:Tl):List UInt8:=(CH 32 (Fh (tlL T)).data.toList).drop 1
def bytesOf(T:Tl):ByteArray:=⟨⟨165::AHm T⟩⟩
theorem Pt(T:Tl):(Fh (tlL T)).size=26:=rfl
theorem Ay5{F:Fs}(hF:FsIs F){c:Cra}(h:He c):GV F c=bytesOf (tlOf (telF F c)):=by
 have ok:=Arh F h
 unfold GV
 rw[hF.write,hF.counts,hF.wrap]
 show(if (!(Is (telF F c)).2)=true then noBytes else(KR (Is (telF F c)).1).1)=_
 have e2:(Is (telF F c)).2=true:=ok
 have e1:(Is (telF F c)).1=(32,Fh (tlL (tlOf (telF F c)))):=by
  show tlW (tlOf (telF F c))=_
  unfold tlW
  rw[if_pos ok]
 rw[e2,e1]
 show(KR (32,Fh (tlL (tlOf (telF F c))))).1=_
 unfold KR
 rw[if_pos ⟨by dsimp only;decide,by dsimp only;decide,by dsimp only;rw[Pt];decide⟩]
 rfl
theorem Pu{t:Int}(h:cRight t=true):0<=t/\t<=157766400000:=by
 unfold cRight at h
 simpa using h
structure AMs(F:Fs)(c:Cra)(t:Int)(b:ByteArray)(d:Cra):Prop where
 right:cRight t=true
 late:c.1=true->c.2.1<t
 inv:He d
 tick:d.2.1=t
 on:d.1=true
 left:d.2.2.1=restOf (c.2.2.1++b).data.toList
 plan:∃p s,(p=Cj c∨p=AHk (Cj c))/\(s.1= !DL c t)/\s.2.2.2.2.2.2.2=(takeW F c t b).2.2.2.2/\Pp (takeW F c t b).2/\(Cj d=Ir (p,s)∨((Ir (p,s)).1=2/\p.1≠2/\Cj d=(1,0,0,0,0,XG (Ir (p,s)).2.2.2.2.2.1,())))
theorem ZN{c d:Cra}(h1:d.1=c.1)(h2:d.2.1=c.2.1)(t:Int):DL d t=DL c t:=by
 unfold DL
 rw[h1,h2]
def I6(c:Cra)(t:Int):Bool:=!cRight t||(c.1&&decide (t<=c.2.1))
theorem Ahv{F:Fs}(hF:FsIs F){c:Cra}{t:Int}(h:I6 c t=true)(b:ByteArray):stepF F c t b=(c,noBytes):=by
 unfold I6 at h
 unfold stepF Ot
 rw[hF.right]
 cases hr:cRight t
 ·rfl
 ·rw[hr]at h
  simp only[Zo,Bool.false_or,Zs]at h
  simp only[Zo,Zp,if_false]
  rw[if_pos h.1,if_pos h.2]
theorem Pv{F:Fs}(hF:FsIs F){c:Cra}{t:Int}(h:I6 c t=false)(b:ByteArray):stepF F c t b=Kt F (fun _=>takeW F c t b) c t b/\cRight t=true/\(c.1=true->c.2.1<t):=by
 unfold I6 at h
 unfold stepF Ot
 rw[hF.right]
 cases hr:cRight t
 ·rw[hr]at h;cases h
 ·rw[hr]at h
  simp only[Zo,Bool.false_or]at h
  simp only[Zo,Zp,if_false]
  cases hc:c.1
  ·exact⟨rfl,by trivial,fun h=>by cases h⟩
  ·rw[hc]at h
   simp only[Bool.true_and]at h
   simp only[if_true]
   rw[h]
   exact⟨rfl,by trivial,fun _=>by have:=of_decide_eq_false h;omega⟩
theorem Ac5{F:Fs}(hF:FsIs F){c:Cra}(hI:He c)(t:Int)(b:ByteArray)(hr:cRight t=true)(hl:c.1=true->c.2.1<t):
    AMs F c t b (Kt F (fun _=>takeW F c t b) c t b).1/\(Kt F (fun _=>takeW F c t b) c t b).2=bytesOf (tlOf (telF F (Kt F (fun _=>takeW F c t b) c t b).1)):=by
 obtain⟨hm,ho⟩:=Pq hF c hI.ak t b
 unfold Kt
 dsimp only
 have hpO:∀x,x=(takeW F c t b).2->x.2.2.2=(takeW F c t b).2.2.2.2/\Pp (takeW F c t b).2:=fun x e=>by rw[e];exact⟨rfl,ho⟩
 generalize hT:takeW F c t b=T at hm ho ⊢
 obtain⟨c1,x⟩:=T
 dsimp only at hm ho ⊢
 generalize driftW F c1.2.2.2.2.2.2.1 x=dr
 obtain⟨g,s,e,hg,hs⟩:=Arf F (setDri c1 dr) x t
 rw[e]
 generalize skyW F (setDri c1 dr) t=y
 have hp:ZK (ZG (Cj (setGue (setDri c1 dr) g))):=by
  show ZK (ZG (Cj c1))
  rcases hm.plan with e |e<;>rw[e]
  ·exact hI.p
  ·exact⟨hI.p.c,hI.p.g,hI.p.i,hI.p.l,hI.p.m0,hI.p.m3,Zq 0,show(0:Int)<=15 by decide⟩
 have hq:=Ay4 hF hp s x y
 have hpl:=Ac4 hF (setGue (setDri c1 dr) g) s x y
 unfold IT
 dsimp only
 generalize planW F (setGue (setDri c1 dr) g) s x y=P at hq hpl ⊢
 have hi:He (Ib (setGue (setDri c1 dr) g) t P.1 P.2):=⟨hr,hq,fun h=>Bool.noConfusion h,hm.ak⟩
 have hpx:=hpO x (by rw[hT])
 refine⟨⟨hr,hl,hi,rfl,rfl,hm.left,Cj c1,s,hm.plan,?_,hs.trans hpx.1,hpx.2,hpl⟩,Ay5 hF hi⟩
 rw[hg]
 exact congrArg _ (ZN hm.on hm.tick t)
theorem Ay6{F:Fs}(hF:FsIs F){c:Cra}(hI:He c){t:Int}(b:ByteArray)(h:I6 c t=false):
    AMs F c t b (stepF F c t b).1/\(stepF F c t b).2=bytesOf (tlOf (telF F (stepF F c t b).1)):=by
 obtain⟨e,hr,hl⟩:=Pv hF h b
 rw[e]
 exact Ac5 hF hI t b hr hl
def sT(g gy sl pa li:Bool)(o:Int):SeD:=(g,gy,sl,pa,li,false,false,o)
structure Rp(y:Sky)(kn:Bool)(p:Tup 3)(sd:Tup 6):Prop where
 known:kn=y.1
 at_:kn=true->p=y.2.1/\sd=y.2.2
section
variable {F D:Fs}
def WA(F:Fs)(x:Hea):Bool:=if !decide (x.1.1=0)then decide ((F.norm false x.1.2.2).1<=54975581388)else false
def Ari(F:Fs)(y:Sky):Bool:=if y.1 then !(F.shaded false (y.2.1,Jn y.2.2)).1 else false
theorem Nk(c:Cra)(t:Int)(x:Hea)(y:Sky):decW F c t x y=sT (!DL c t) (!decide (x.1.1=0)) (WA F x) (DN F x y) (Ari F y) x.2.2.2:=by
 unfold decW WA Ari sT
 cases !decide (x.1.1=0)<;>cases y.1<;>rfl
theorem Ay7(S:Ft F D){c:Cra}{t ms:Int}{xd:HeD}{y:Sky}{kn:Bool}{p:Tup 3}{sd b:Tup 6}(Y:Rp y kn p sd){g gy sl pa:Bool}{o:Int}:
    e35 D c t ms kn xd p sd b (sT g gy sl pa false o)=eG D c t ms xd sd b (sT g gy sl pa (Ari F y) o):=by
 obtain⟨k,a⟩:=Y
 unfold e35 Ari
 rw[<-k,S.shaded]
 cases kn
 ·rfl
 ·obtain⟨rfl,rfl⟩:=a rfl
  rfl
theorem AHn(S:Ft F D){c:Cra}{t ms:Int}{x:Hea}{xd:HeD}(R:HR x xd){y:Sky}{kn:Bool}{p:Tup 3}{sd:Tup 6}(Y:Rp y kn p sd){g gy sl:Bool}{o:Int}:
    eP D c t ms kn xd p sd (Bm x) (sT g gy sl false false o)=e35 D c t ms kn xd p sd (Bm x) (sT g gy sl (DN F x y) false o):=by
 obtain⟨k,a⟩:=Y
 unfold eP e30 DN
 rw[R.t2,R.t3,S.apart,<-k]
 cases kn
 ·rfl
 ·obtain⟨rfl,rfl⟩:=a rfl
  cases !decide (x.2.1.1=0)
  ·rfl
  ·cases !decide (x.2.2.1.1=0)
   ·rfl
   ·cases (F.apart false (Jn y.2.2,PN y.2.2)).1<;>rfl
theorem Ay8(S:Ft F D){c:Cra}{t ms:Int}{x:Hea}{xd:HeD}(R:HR x xd)(hn:(F.norm false x.1.2.2).2=false){kn:Bool}{p:Tup 3}{sd:Tup 6}{g:Bool}{o:Int}:
    e27 D c t ms kn xd p sd (Bm x) (sT g (!decide (x.1.1=0)) false false false o)=eP D c t ms kn xd p sd (Bm x) (sT g (!decide (x.1.1=0)) (WA F x) false false o):=by
 unfold e27 WA r1D
 rw[R.r1,S.norm.flag,S.norm.val _ hn,hn]
 cases e: !decide (x.1.1=0)
 ·rfl
 ·by_cases h:(F.norm false x.1.2.2).1<=54975581388
  ·simp only[h,decide_true,if_true]
   rfl
  ·simp only[h,decide_false,if_false]
   rfl
theorem Ac6(S:Ft F D){c:Cra}{t ms:Int}{x:Hea}{xd:HeD}(R:HR x xd)(hn:(F.norm false x.1.2.2).2=false){y:Sky}{kn:Bool}{p:Tup 3}{sd:Tup 6}(Y:Rp y kn p sd){g:Bool}{o:Int}:
    e27 D c t ms kn xd p sd (Bm x) (sT g (!decide (x.1.1=0)) false false false o)=eG D c t ms xd sd (Bm x) (sT g (!decide (x.1.1=0)) (WA F x) (DN F x y) (Ari F y) o):=by
 rw[Ay8 S R hn,AHn S R Y,Ay7 S Y]
theorem Ay9(S:Ft F D)(c:Cra)(t:Int)(hp:c.2.2.2.2.1=true):Rp (skyW F c t) (PU D c t).1 (PU D c t).2.1 (PU D c t).2.2:=by
 unfold PU skyW
 rw[hp]
 have f1:=S.place.flag (c.2.2.2.2.2.1,t)
 have v1:=S.place.val (c.2.2.2.2.2.1,t)
 generalize F.place false (c.2.2.2.2.2.1,t)=a at f1 v1 ⊢
 generalize D.place false (c.2.2.2.2.2.1,t)=a' at f1 v1 ⊢
 obtain⟨a,fa⟩:=a
 obtain⟨a',fa'⟩:=a'
 dsimp only at f1 v1 ⊢
 subst f1
 cases fa'
 ·have v1:=v1 rfl
  subst v1
  have f2:=S.dir.flag t
  have v2:=S.dir.val t
  generalize F.dir false t=d at f2 v2 ⊢
  generalize D.dir false t=d' at f2 v2 ⊢
  obtain⟨d,fd⟩:=d
  obtain⟨d',fd'⟩:=d'
  dsimp only at f2 v2 ⊢
  subst f2
  cases fd'
  ·have v2:=v2 rfl
   subst v2
   have f3:=S.sky.flag (a',t)
   have v3:=S.sky.val (a',t)
   generalize F.sky false (a',t)=s at f3 v3 ⊢
   generalize D.sky false (a',t)=s' at f3 v3 ⊢
   obtain⟨s,fs⟩:=s
   obtain⟨s',fs'⟩:=s'
   dsimp only at f3 v3 ⊢
   subst f3
   cases fs'
   ·have v3:=v3 rfl
    subst v3
    exact⟨rfl,fun _=>⟨rfl,rfl⟩⟩
   ·exact⟨rfl,fun h=>by cases h⟩
  ·have b:=S.sky.bad (a',t)
   rw[b.1,b.2]
   exact⟨rfl,fun h=>by cases h⟩
 ·have b:=(S.dir.bad t)
  rw[b.1,b.2]
  have b1:=(S.sky.bad (a,t)).1
  have b2:=(S.sky.bad (a',t)).2
  rw[b1,b2]
  exact⟨rfl,fun h=>by cases h⟩
end
section
variable {F D:Fs}
theorem WB{x:Hea}{y:Sky}(h:DN F x y=true):y.1=true:=by
 unfold DN at h
 cases e:y.1
 ·rw[e]at h
  cases h
 ·rfl
theorem Arj(S:Ft F D)(N:EB F)(c:Cra)(t ms:Int){x:Hea}{xd:HeD}(R:HR x xd){kn:Bool}{p:Tup 3}{sd:Tup 6}(Y:Rp (skyW F c t) kn p sd)(hms:DL c t=true->ms=IntKind.i64.wrap (t-c.2.1))
    (hw:Ge F (goW F c x t).1):eG D c t ms xd sd (Bm x) (decW F c t x (skyW F c t))=goW F c x t:=by
 have hY:(decW F c t x (skyW F c t)).2.2.2.1=true->sd=(skyW F c t).2.2:=by
  intro h
  rw[Nk]at h
  have k:=WB (F:=F) (show DN F x (skyW F c t)=true from h)
  exact(Y.at_ (Y.known.trans k)).2
 have hg:(decW F c t x (skyW F c t)).1= !DL c t:=by rw[Nk];rfl
 unfold goW at hw ⊢
 unfold eG e37
 generalize hy:skyW F c t=y at hY hg hw ⊢
 generalize decW F c t x y=e at hY hg hw ⊢
 by_cases h2:c.2.2.2.1.1=2
 ·rw[if_pos h2]
  rw[decide_eq_true h2]at hw ⊢
  cases h3:e.1
  ·rw[h3]at hw hg
   have hms:=hms (by cases h:DL c t;(rw[h]at hg;cases hg);rfl)
   subst hms
   unfold r1D
   rw[R.r1]
   simp only[Bool.not_false,if_true]at hw ⊢
   unfold Oi at hw ⊢
   cases h4:e.2.1
   ·rw[h4]at hw
    exact Ac0 S N c e x y t sd _ _ h2 h3 hY (S.move.flag _) (fun h=>S.move.val _ h) hw
   ·rw[h4]at hw
    exact Ac0 S N c e x y t sd _ _ h2 h3 hY (S.move.flag _) (fun h=>S.move.val _ h) hw
  ·rw[h3]at hw
   exact M9 S c e x y t sd (fun h1 h=>absurd h2 h) hw
 ·rw[if_neg h2]
  rw[decide_eq_false h2]at hw ⊢
  exact M9 S c e x y t sd (fun h1 h=>hY (N.pair _ _ h1 h)) hw
theorem AHo{x:Hea}{xd:HeD}(R:HR x xd):XW xd=Bm x:=by
 unfold XW Bm
 rw[R.r2,R.r3]
theorem Ac7(S:Ft F D)(N:EB F)(c:Cra)(t:Int){x:Hea}{xd:HeD}(R:HR x xd){kn:Bool}{p:Tup 3}{sd:Tup 6}(Y:Rp (skyW F c t) kn p sd)(hc:0<=c.2.1/\c.2.1<=4611686018427387904)(ht:0<=t/\t<=4611686018427387904)(hl:c.1=true->c.2.1<t)
    (hn:(F.norm false x.1.2.2).2=false) (hw:Ge F (goW F c x t).1):e17 D c t c.2.1 c.1 kn xd p sd (XW xd)=goW F c x t:=by
 unfold e17
 rw[Am0 hc ht c.1 (XX xd) 9991 (by omega),AHo R]
 have es:XX xd=sT true (!decide (x.1.1=0)) false false false x.2.2.2:=by
  unfold XX sT
  rw[R.t1,R.o]
 have gw:DL c t=decide (c.1=true/\10<=t-c.2.1/\t-c.2.1<10+((9991:Nat):Int)):=by
  unfold DL
  dsimp only
  cases h1:c.1
  ·simp
  ·have hl:=hl h1
   have e:IntKind.u64.wrap (IntKind.u64.wrap t-IntKind.u64.wrap c.2.1)=t-c.2.1:=by
    simp only[IntKind.wrap_u64]
    omega
   rw[e,if_pos rfl]
   by_cases h2:10<=t-c.2.1
   ·rw[if_pos h2]
    by_cases h3:t-c.2.1<=10000
    ·rw[decide_eq_true h3];exact(decide_eq_true ⟨rfl,h2,by omega⟩).symm
    ·rw[decide_eq_false h3];exact(decide_eq_false (fun h=>by omega)).symm
   ·rw[if_neg h2];exact(decide_eq_false (fun h=>h2 h.2.1)).symm
 rw[es]
 by_cases h:c.1=true/\10<=t-c.2.1/\t-c.2.1<10+((9991:Nat):Int)
 ·rw[if_pos h]
  rw[decide_eq_true h]at gw
  change e27 D c t (t-c.2.1) kn xd p sd (Bm x) (sT false (!decide (x.1.1=0)) false false false x.2.2.2)=_
  rw[Ac6 S R hn Y]
  have k:=Arj S N c t (t-c.2.1) R Y (fun _=>(Ox (by omega)).symm) hw
  rw[Nk,gw]at k
  exact k
 ·rw[if_neg h]
  rw[decide_eq_false h]at gw
  change e27 D c t 0 kn xd p sd (Bm x) (sT true (!decide (x.1.1=0)) false false false x.2.2.2)=_
  rw[Ac6 S R hn Y]
  have k:=Arj S N c t 0 R Y (fun h=>by rw[gw]at h;cases h) hw
  rw[Nk,gw]at k
  exact k
theorem Ark(S:Ft F D)(N:EB F)(c:Cra)(t:Int){x:Hea}{xd:HeD}(R:HR x xd)(hc:0<=c.2.1/\c.2.1<=4611686018427387904)(ht:0<=t/\t<=4611686018427387904)(hl:c.1=true->c.2.1<t)
    (hn:(F.norm false x.1.2.2).2=false) (hw:Ge F (goW F c x t).1):e8 D c t c.2.1 c.1 xd=goW F c x t:=by
 unfold e8
 cases h:c.2.2.2.2.1
 ·exact Ac7 S N c t R ⟨by unfold skyW;rw[h];rfl,fun h=>by cases h⟩ hc ht hl hn hw
 ·exact Ac7 S N c t R (Ay9 S c t h) hc ht hl hn hw
end
structure Fit(F:Fs)(c:Cra)(t:Int)(b:ByteArray):Prop where
 kind:∀f,(F.read f).2=true->(F.read f).1.1=f.1
 right:F.right t=true->0<=t/\t<=4611686018427387904
 tick:0<=c.2.1/\c.2.1<=4611686018427387904
 keepOn:(takeW F c t b).1.1=c.1
 keepTick:(takeW F c t b).1.2.1=c.2.1
 drift:-9223372036854775808<=(takeW F c t b).1.2.2.2.2.2.2.1.2.1/\(takeW F c t b).1.2.2.2.2.2.2.1.2.1<=9223372036854775807
 mag:-9223372036854775808<=(takeW F c t b).2.2.2.1.2.1/\(takeW F c t b).2.2.2.1.2.1<=9223372036854775807
 gyro:(F.norm false (takeW F c t b).2.1.2.2).2=false
 tells:Ge F (goW F (setDri (takeW F c t b).1 (driftW F (takeW F c t b).1.2.2.2.2.2.2.1 (takeW F c t b).2)) (takeW F c t b).2 t).1
section
variable {F D:Fs}
theorem ZO(S:Ft F D)(c:Cra)(t:Int)(b:ByteArray):takeD D c t b=takeD F c t b:=by
 have e:Gd D t=Gd F t:=by
  funext s f
  unfold Gd PS
  rw[S.read,S.fresh]
  by_cases h:f.1=16
  ·rw[S.oread f h]
  ·simp only[h,if_false]
 unfold takeD
 rw[e]
theorem Arl(S:Ft F D)(N:EB F){c:Cra}{t:Int}{b:ByteArray}(H:Fit F c t b)(hr:F.right t=true)(hl:c.1=true->c.2.1<t):
    e5 D (takeD D c t b).1 t c.2.1 c.1 (takeD D c t b).2=goW F (setDri (takeW F c t b).1 (driftW F (takeW F c t b).1.2.2.2.2.2.2.1 (takeW F c t b).2)) (takeW F c t b).2 t:=by
 rw[ZO S]
 obtain⟨h1,R⟩:=Amz F H.kind c t b
 have k1:=H.keepOn
 have k2:=H.keepTick
 have hd:=H.drift
 have hm:=H.mag
 have hg:=H.gyro
 have hw:=H.tells
 have tick:=H.tick
 generalize takeD F c t b=y at h1 R ⊢
 generalize takeW F c t b=x at h1 R k1 k2 hd hm hg hw ⊢
 obtain⟨c1,x⟩:=x
 obtain⟨c2,y⟩:=y
 dsimp only at h1 R k1 k2 hd hm hg hw ⊢
 subst h1
 rw[<-k1,<-k2]at hl
 rw[<-k2]at tick
 rw[<-k1,<-k2]
 unfold e5
 unfold driftW at hw ⊢
 rw[R.t3]
 cases e: !decide (x.2.2.1.1=0)
 ·rw[e]at hw
  exact Ark S N c1 t R tick (H.right hr) hl hg hw
 ·rw[e]at hw
  unfold r3D
  rw[R.r3,S.bstep _ _ _ hd hm]
  exact Ark S N (setDri c1 (F.bstep false (c1.2.2.2.2.2.2.1,x.2.2.1.2.2,x.2.2.1.2.1)).1) t R tick (H.right hr) hl hg hw
theorem Arm(S:Ft F D)(N:EB F){c:Cra}{t:Int}{b:ByteArray}(H:Fit F c t b):Ku D c t (takeD D c t b)=Ot F (fun _=>takeW F c t b) c t b:=by
 unfold Ku Ot Kt
 rw[S.right]
 cases hr:F.right t
 ·rfl
 ·cases h1:c.1
  ·have k:=Arl S N H hr (fun h=>by rw[h1]at h;cases h)
   rw[h1]at k
   exact k
  ·by_cases h2:t<=c.2.1
   ·rw[decide_eq_true h2]
    simp only[Zo,Zp,if_false,if_true,h2]
   ·rw[decide_eq_false h2]
    have k:=Arl S N H hr (fun _=>by omega)
    rw[h1]at k
    simp only[Zo,Zp,if_false,if_true,h2]
    exact k
end
theorem WC{P:Program}{fn:Nat}{A R:Type}{d:Dl A}{c:Dc R}{g g':Bool->A->R×Bool}(hi:P.inits.idxOf? fn=none)(h:Ai P fn d g c)(k:Ai P fn d g' c)(bad:Bool)(x:A):c.enc (g bad x).1=c.enc (g' bad x).1/\(g bad x).2=(g' bad x).2:=
 Nx.CallsOk.det hi (rest:=d.enc x) ⟨d.np x,c.np _,fun b w hg hb hw=>h b bad x w hg hb hw⟩ ⟨d.np x,c.np _,fun b w hg hb hw=>k b bad x w hg hb hw⟩
def AMt:Ct Zm:=Ak Zm 135 (Ac cI (Ac cI (Aa cI))) (fun bad x=>Ar bad x.1 x.2.1 x.2.2) cI (Ae Tryz.func135 (by kernel_rfl) (by kernel_rfl)) (fun b bad x w _ _ hw=>Kj b bad x.1 x.2.1 x.2.2 w hw)
theorem Ahw:Ai Zm 46 (Aa (cT 3)) (fun bad p=>Ar bad p.1 p.2.1 p.2.2.1) cI:=AZ (tbl:=[AMt]) (dirty:=fun _=>[]) (n:=2) xmixA Tryz.func46 rfl (fun bad x Post=>by kernel_rfl)
theorem ZP{a b c:Int}(ha:-32768<=a/\a<=32767)(hb:-32768<=b/\b<=32767)(hc:-32768<=c/\c<=32767):(Ar false (a*33554432) (b*33554432) (c*33554432)).2=false:=by
 have sq:∀x:Int,-32768<=x/\x<=32767->0<=x*33554432*(x*33554432)/\x*33554432*(x*33554432)<=1208925819614629174706176:=fun x hx=>by
  have h1:0<=x*33554432*(x*33554432):=by
   rcases Int.le_total 0 (x*33554432)with h |h
   ·exact Int.mul_nonneg h h
   ·exact Int.mul_nonneg_of_nonpos_of_nonpos h h
  refine⟨h1,?_⟩
  rcases Int.le_total 0 (x*33554432)with h |h
  ·exact Int.mul_le_mul (show x*33554432<=1099511627776 by omega) (show x*33554432<=1099511627776 by omega) h (by decide)
  ·have:=Int.mul_le_mul (show-(x*33554432)<=1099511627776 by omega) (show-(x*33554432)<=1099511627776 by omega) (by omega) (by decide)
   rw[Int.neg_mul_neg]at this
   exact this
 have s1:=sq a ha
 have s2:=sq b hb
 have s3:=sq c hc
 have hs:=Dy (a*33554432*(a*33554432)+b*33554432*(b*33554432)+c*33554432*(c*33554432)) (by omega) (by omega)
 have lt:isq (a*33554432*(a*33554432)+b*33554432*(b*33554432)+c*33554432*(c*33554432))<=4611686018427387904:=by
  refine Int.not_lt.1 fun h=>?_
  have:=Int.mul_le_mul (Int.le_of_lt h) (Int.le_of_lt h) (by decide) hs.1
  have:=hs.2.1
  omega
 have hn:∀x:Int,-32768<=x/\x<=32767->numB (x*33554432)=true:=fun x hx=>B8 ⟨by omega,by omega⟩
 rw[OA (hn a ha) (hn b hb) (hn c hc) hs.1 lt hs.2.1 hs.2.2]
theorem Me{k:Int}{s:ByteArray}(h:C7 k s=true):BI (k,s)=((k,CM s,(EC k s 6).1,(EC k s 6).2.1,(EC k s 6).2.2,()),true):=(Gj k s).trans (if_pos h)
theorem Pw{k:Int}{s:ByteArray}(h:C7 k s=false):BI (k,s)=zero5:=(Gj k s).trans (if_neg (by rw[h];decide))
theorem Px(f:Fra)(h:(BI f).2=true):(BI f).1.1=f.1:=by
 obtain⟨k,s⟩:=f
 cases e:C7 k s
 ·rw[Pw e]at h
  cases h
 ·rw[Me e]
theorem ZQ(f:Fra):0<=(BI f).1.2.1/\(BI f).1.2.1<=157766400000:=by
 obtain⟨k,s⟩:=f
 cases e:C7 k s
 ·rw[Pw e]
  exact⟨Zq 0,show(0:Int)<=157766400000 by decide⟩
 ·rw[Me e]
  unfold C7 at e
  simp only[Zs]at e
  exact Pu e.1.2
def GyI(r:Tup 5):Prop:=∃a b c:Int,(-32768<=a/\a<=32767)/\(-32768<=b/\b<=32767)/\(-32768<=c/\c<=32767)/\r.2.2=(a*33554432,b*33554432,c*33554432,())
theorem ZR(f:Fra)(h:(BI f).2=true)(hk:(BI f).1.1=1):GyI (BI f).1:=by
 have e:=Px f h
 obtain⟨k,s⟩:=f
 dsimp only at e
 rw[hk]at e
 subst e
 cases e:C7 1 s
 ·rw[Pw e]at h
  cases h
 ·rw[Me e]
  have c:∀i,cnt s i<65536:=fun i=>by
   unfold cnt
   have:=Fg s i
   have:=Fg s (i+1)
   omega
  exact⟨sg (cnt s 6),sg (cnt s 8),sg (cnt s 10),TD (c 6),TD (c 8),TD (c 10),rfl⟩
structure Iu(x:Hea):Prop where
 g:GyI x.1
 m:0<=x.2.2.1.2.1/\x.2.2.1.2.1<=157766400000
section
variable {F D:Fs}
theorem Iu.sen(hF:FsIs F){c:Cra}{x:Hea}(f:Fra)(t:Int)(h:Iu x):Iu (senW F c x f t).2:=by
 unfold senW
 rw[hF.read]
 split
 ·exact h
 rename_i h1
 split
 ·exact h
 split
 ·rename_i h2
  exact⟨ZR f (by simpa using h1) (by simpa using h2),h.m⟩
 split
 ·exact⟨h.g,h.m⟩
 split
 ·exact⟨h.g,ZQ f⟩
 ·exact h
theorem Iu.ord{c:Cra}{x:Hea}(o:Tup 9×Int)(h:Iu x):Iu (ordC c x o).2:=by
 unfold ordC
 split
 ·exact h
 split
 ·exact⟨h.g,h.m⟩
 split
 ·exact⟨h.g,h.m⟩
 split
 ·exact h
 split
 ·exact h
 ·exact h
theorem Iu.hear(hF:FsIs F)(t:Int)(s:Cra×Hea)(f:Fra)(h:Iu s.2):Iu (Dv F t s f).2:=by
 unfold Dv
 split
 ·exact h.sen hF f t
 split
 ·exact h.sen hF f t
 split
 ·exact h.sen hF f t
 split
 ·exact h.ord _
 ·exact h
theorem Iu.all(hF:FsIs F)(t:Int):∀(fs:List Fra) (s:Cra×Hea),Iu s.2->Iu (fs.foldl (Dv F t) s).2
 |[],_,h=>h
 |f::fs,s,h=>Iu.all hF t fs (Dv F t s f) (Iu.hear hF t s f h)
theorem WE(hF:FsIs F)(c:Cra)(t:Int)(b:ByteArray):Iu (takeW F c t b).2:=by
 unfold takeW
 exact Iu.all hF t _ _ ⟨⟨0,0,0,by decide,by decide,by decide,rfl⟩,Zq 0,show(0:Int)<=157766400000 by decide⟩
theorem AHp{s:List UInt8}(h:look s=none):s.length<=68:=by
 unfold look at h
 split at h
 ·omega
 split at h
 ·cases h
 split at h
 ·omega
 split at h
 ·cases h
 split at h
 ·omega
 split at h
 ·cases h
 ·cases h
theorem ZS:∀(f:Nat) (s:List UInt8),s.length<=f->(Cf f s).2.1.length<=68
 |0,s,h=>by
  show s.length<=68
  omega
 | f+1,s,h=>by
  unfold Cf
  split
  ·rename_i e
   exact AHp e
  ·rename_i e
   have:=Da e
   exact ZS f (s.drop 1) (by rw[List.length_drop];omega)
  ·rename_i n e
   have:=Da e
   exact ZS f (s.drop (n+5)) (by rw[List.length_drop];omega)
theorem AHq(L:List UInt8):(restOf L).size<=68:=ZS _ L (Nat.le_refl _)
def DrI(d:Dri):Prop:=-9223372036854775808<=d.2.1/\d.2.1<=9223372036854775807
theorem ZT(hF:FsIs F)(x:Dri×Tup 3×Int):(F.bstep false x).1.2.1=x.2.2∨(F.bstep false x).1.2.1=0:=by
 have h:=(WC (by decide+kernel) hF.ok.bstep V4 false x).1
 have e:(F.bstep false x).1.2.1=(driB (stepB false (drOf x.1) (v3Of x.2.1) x.2.2)).1.2.1:=by
  generalize (F.bstep false x).1=u at h ⊢
  generalize (driB (stepB false (drOf x.1) (v3Of x.2.1) x.2.2)).1=v at h ⊢
  have:=congrArg (fun z=>match z with
   |Value.agg cs=>cs.toList[1]?
   |_=>none) h
  injection this with this
  injection this
 rw[e]
 unfold stepB
 split
 ·dsimp only
  split
  ·exact .inr rfl
  ·exact .inl rfl
 ·dsimp only
  split
  ·exact .inr rfl
  ·exact .inl rfl
theorem Aro(hF:FsIs F){d:Dri}{x:Hea}(hd:DrI d)(hx:Iu x):DrI (driftW F d x):=by
 unfold driftW
 split
 ·exact hd
 ·have hm:=hx.m
  rcases ZT hF (d,x.2.2.1.2.2,x.2.2.1.2.1)with e |e
  ·unfold DrI
   rw[e]
   dsimp only
   omega
  ·unfold DrI
   rw[e]
   decide
theorem AHr(hF:FsIs F){c:Cra}(hI:He c)(hd:DrI (Ha c)){t:Int}{b:ByteArray}(h:I6 c t=false):Fit F c t b:=by
 obtain⟨_,hr,hl⟩:=Pv hF h b
 obtain⟨hm,_⟩:=Pq hF c hI.ak t b
 have hx:=WE hF c t b
 obtain⟨T,_⟩:=Ac5 hF hI t b hr hl
 have h1:=Pu hI.t
 refine⟨fun f hf=>?_,fun h=>?_,⟨h1.1,by omega⟩,hm.on,hm.tick,?_,?_,?_,?_⟩
 ·rw[hF.read]at hf ⊢
  exact Px f hf
 ·rw[hF.right]at h
  have:=Pu h
  exact⟨this.1,by omega⟩
 ·have e:Ha (takeW F c t b).1=Ha c:=hm.dri
  show DrI (Ha (takeW F c t b).1)
  rw[e]
  exact hd
 ·have:=hx.m
  exact⟨by omega,by omega⟩
 ·obtain⟨a1,a2,a3,g1,g2,g3,e⟩:=hx.g
  rw[(WC (by decide+kernel) hF.ok.norm Ahw false _).2,e]
  exact ZP g1 g2 g3
 ·have:=Arh F T.inv
  unfold Ge
  rw[hF.write,hF.counts]
  exact this
theorem Rq(hF:FsIs F)(S:Ft F D)(N:EB F){c:Cra}(hI:He c)(hd:DrI (Ha c))(t:Int)(b:ByteArray):
    Ku D c t (takeD D c t b)=stepF F c t b/\He (stepF F c t b).1/\DrI (Ha (stepF F c t b).1)/\((stepF F c t b).1.2.2.1.size<=68∨(stepF F c t b).1.2.2.1=c.2.2.1):=by
 cases h:I6 c t
 ·refine⟨Arm S N (AHr hF hI hd h),(Ay6 hF hI b h).1.inv,?_,?_⟩
  ·obtain⟨e,hr,hl⟩:=Pv hF h b
   rw[e]
   obtain⟨hm,_⟩:=Pq hF c hI.ak t b
   have hx:=WE hF c t b
   unfold Kt
   dsimp only
   obtain⟨g,s,e2,_,_⟩:=Arf F (setDri (takeW F c t b).1 (driftW F (takeW F c t b).1.2.2.2.2.2.2.1 (takeW F c t b).2)) (takeW F c t b).2 t
   rw[e2]
   refine Aro hF (d:=Ha (takeW F c t b).1) ?_ hx
   rw[hm.dri]
   exact hd
  ·rw[(Ay6 hF hI b h).1.left]
   exact .inl (AHq _)
 ·have e:=Ahv hF h b
  rw[e]
  refine⟨?_,hI,hd,.inr rfl⟩
  unfold I6 at h
  unfold Ku
  rw[S.right,hF.right]
  cases hr:cRight t
  ·rfl
  ·rw[hr]at h
   simp only[Zo,Bool.false_or,Zs,decide_eq_true_eq]at h
   simp only[Zo,Zp,if_false]
   rw[if_pos h.1,if_pos h.2]
end
theorem Arp{A B:Prop}:AE true A B=A:=rfl
theorem Arq{A B:Prop}:AE false A B=B:=rfl
def DsR(t was:Int)(on kn:Bool)(c:Cra)(x:HeD)(p:Tup 3)(s b:Tup 6)(G:VQ->List Value->Xm->Prop):Prop:=∀(ms i:Int) (d:Nat->Value) (e:SeD) (Q:VQ),G Q (f21 t was on kn ms i d) (m21 c x p s b e)=
      AE (decide (i<=10000)) (AE on (AE (decide (was<=IntKind.i64.wrap (t-i))) (AE (decide (IntKind.i64.wrap (was+i)=t)) (dnx t was on kn i c x p s b Q (Ou e false) i) (dnx t was on kn i c x p s b Q e ms)) (dnx t was on kn i c x p s b Q e ms)) (dnx t was on kn i c x p s b Q e ms))
      (Q (.exit 0) (Amr t was on kn ms i d) (m21 c x p s b e))
theorem Aza{t was:Int}{on kn:Bool}{c:Cra}{x:HeD}{p:Tup 3}{s b:Tup 6}{G:VQ->List Value->Xm->Prop}(hG:DsR t was on kn c x p s b G)(e0:SeD)(Q:VQ)
    (hQ:∀d,Q (.exit 0) (Amr t was on kn (SR was t on e0 9991).2 10001 d) (m21 c x p s b (SR was t on e0 9991).1)):∀r k:Nat,k+r=9991->∀d,AS (r+1) G Q (f21 t was on kn (SR was t on e0 k).2 (10+(k:Int)) d) (m21 c x p s b (SR was t on e0 k).1):=by
 intro r
 induction r with
 |zero=>
  intro k hk d
  have e:k=9991:=by omega
  subst e
  rw[AS,hG,decide_eq_false (by decide)]
  exact hQ d
 | succ r ih=>
  intro k hk d
  have hw:IntKind.i64.wrap ((10+(k:Int))+1)=10+((k+1:Nat):Int):=by
   rw[IntKind.wrap_i64]
   omega
  have go:∀y:SeD×Int,SR was t on e0 (k+1)=y->dnx t was on kn (10+(k:Int)) c x p s b (fun e vt m=>match e with
      | .normal=>AS (r+1) G Q vt m
      |e=>Q e vt m) y.1 y.2:=by
   rintro y rfl
   refine⟨rfl,rfl,rfl,fun d'=>?_⟩
   rw[hw]
   exact ih (k+1) (by omega) d'
  rw[AS,hG,decide_eq_true (by omega)]
  cases on
  ·exact go _ (by rw[SR];rfl)
  ·by_cases h1:was<=IntKind.i64.wrap (t-(10+(k:Int)))
   ·rw[decide_eq_true h1]
    by_cases h2:IntKind.i64.wrap (was+(10+(k:Int)))=t
    ·rw[decide_eq_true h2]
     exact go (Ou (SR was t true e0 k).1 false,10+(k:Int)) (by rw[SR,if_pos rfl,if_pos h1,if_pos h2])
    ·rw[decide_eq_false h2]
     exact go _ (by rw[SR,if_pos rfl,if_pos h1,if_neg h2])
   ·rw[decide_eq_false h1]
    exact go _ (by rw[SR,if_pos rfl,if_neg h1])
section
variable (T:List (Ct Zm))
theorem AMu(w:World):D5 Zm (Hd T) [] w [] [] (An Zm 8):=by
 refine CV (ns:=[5,8,17,21,23,30,35,37,50,51,54,58,60].map fun i=>(i,Cg Zm 8 i,false)) (by kernel_rfl) ?_
 intro r hr
 obtain⟨i,hi,rfl⟩:=List.mem_map.1 hr
 intro R hR K Q bl vt m a w h r hK
 have e:∃ks,R=Di Zm T (fun _=>[]) i ks 353:=by
  unfold Hd at hR
  dsimp only at hR
  split at hR<;>first |(cases hR;exact⟨_,rfl⟩)|cases hR
 obtain⟨ks,rfl⟩:=e
 exact SQ xmixA h r hK
end
section
variable (F:Fs) (h:DsOk F) {x0:Cra×Int×ByteArray} {y0:Cra×HeD} {hY:∀w,GW w->Calls Zm 18 ((Ac cCra (Ac cI (Aa cS))).enc x0).toArray w fun e w'=>e=.returned ((Au cCra MH).enc y0)/\Below w.heap.size w w'} (Post:Value->Prop)
theorem Ac8{T:List (Ct Zm)}(hT:T=JK F h x0 y0 hY)(t was:Int)(on kn:Bool)(d:Nat->Value)(c:Cra)(x:HeD)(p:Tup 3)(s b:Tup 6)(hp:pQ Post (e17 F c t was on kn x p s b)):
    Ao Zm T (fun _=>[]) 9992 (Hd T) (QU Zm 11) (rQ Post) (f17 t was on kn d) (m17 c x p s b):=by
 rw[AOh]
 refine⟨rfl,rfl,rfl,fun d=>?_⟩
 refine Aza (t:=t) (was:=was) (on:=on) (kn:=kn) (c:=c) (x:=x) (p:=p) (s:=s) (b:=b) (fun ms i d e Q=>Ams T 9992 t was on kn ms i d c x p s b e Q) (XX x) _ (fun d=>?_) 9991 0 rfl d
 exact Eq.mpr (AEc F h T 9992 Post hT t was on kn _ 10001 d c x p s b _) hp
theorem Ars{T:List (Ct Zm)}(hT:T=JK F h x0 y0 hY)(t was:Int)(on:Bool)(d:Nat->Value)(c:Cra)(x:HeD)(hp:pQ Post (e8 F c t was on x)):
    Ao Zm T (fun _=>[]) 9992 (Hd T) (QU Zm 7) (rQ Post) (f8 t was on d) (m8 c x (0,0,0,())):=by
 rw[AOg F h T hT]
 unfold e8 at hp
 cases e:c.2.2.2.2.1
 ·rw[e]at hp
  exact⟨rfl,rfl,rfl,fun d=>Ac8 F h Post hT t was on false d c x _ _ _ hp⟩
 ·rw[e]at hp
  exact⟨rfl,rfl,rfl,fun d=>Ac8 F h Post hT t was on _ d c x _ _ _ hp⟩
theorem AHs{T:List (Ct Zm)}(hT:T=JK F h x0 y0 hY)(t was:Int)(on:Bool)(d:Nat->Value)(c:Cra)(x:HeD)(hp:pQ Post (e5 F c t was on x)):
    Ao Zm T (fun _=>[]) 9992 (Hd T) (QU Zm 5) (rQ Post) (f5 t was on d) (m5 c x):=by
 rw[AOf F h T hT]
 unfold e5 at hp
 cases e:x.2.2.2.1
 ·rw[e]at hp
  exact⟨rfl,rfl,rfl,fun d=>Ars F h Post hT t was on d c x hp⟩
 ·rw[e]at hp
  exact⟨rfl,rfl,rfl,fun d=>Ars F h Post hT t was on d _ x hp⟩
theorem AHt{T:List (Ct Zm)}(hT:T=JK F h x0 y0 hY)(hP:pQ Post (Ku F x0.1 x0.2.1 y0)):
    Ao Zm T (fun _=>[]) 9992 (Hd T) (An Zm 8) (rQ Post) ((Ac cCra (Ac cI (Aa cS))).enc x0++Zu ((Ba Zm 8).ntmps-((Ac cCra (Ac cI (Aa cS))).enc x0).length) undef) []:=by
 rw[AOo F h T 9992 hT Post]
 unfold Ku at hP
 have c5_is:pQ Post (e5 F y0.1 x0.2.1 x0.1.2.1 x0.1.1 y0.2)->c5 T 9992 (rQ Post) x0 y0:=fun hq=>⟨rfl,rfl,rfl,rfl,fun d=>AHs F h Post hT _ _ _ d _ _ hq⟩
 cases e1:F.right x0.2.1
 ·rw[Bool.not_false,Arp]
  rw[e1,Bool.not_false,if_pos rfl]at hP
  exact hP
 ·rw[Zo,Arq]
  rw[e1,Zo,if_neg (by decide)]at hP
  cases e2:x0.1.1
  ·rw[Arq]
   rw[e2,if_neg (by decide)]at hP
   rw[e2]at c5_is
   exact c5_is hP
  ·rw[Arp]
   rw[e2,if_pos rfl]at hP
   rw[e2]at c5_is
   by_cases e3:x0.2.1<=x0.1.2.1
   ·rw[if_pos e3]at hP
    rw[decide_eq_true e3,Arp]
    exact hP
   ·rw[if_neg e3]at hP
    rw[decide_eq_false e3,Arq]
    exact c5_is hP
theorem Art(h:DsOk F)(x:Cra×Int×ByteArray)(hs:x.1.2.2.1.size+x.2.2.size<=5000)(w:World)(hw:GW w):
    Calls Zm 8 ((Ac cCra (Ac cI (Aa cS))).enc x).toArray w fun e w'=>e=.returned ((Au cCra cS).enc (Ku F x.1 x.2.1 (takeD F x.1 x.2.1 x.2.2)))/\Below w.heap.size w w':=
 Gc (tbl:=JK F h x _ (fun w hw=>QS F h x hs w hw)) (dirty:=fun _=>[]) (n:=9992) (ov:=Hd (JK F h x _ (fun w hw=>QS F h x hs w hw))) (k:=Au cCra cS) (y:=Ku F x.1 x.2.1 (takeD F x.1 x.2.1 x.2.2)) xmixA (by kernel_rfl) (by kernel_rfl) (AMu _)
  (AHt F h (fun v=>v=(Au cCra cS).enc (Ku F x.1 x.2.1 (takeD F x.1 x.2.1 x.2.2))) rfl rfl) w hw
end
def Mf(P:Program):Nat->TypeId->Value->Bool
 |0,_,_=>false
 | d+1,t,v=>match P.underlying t,v with
  |some .bool,.bool _=>true
  |some (.int _),.int _ _=>true
  |some .string,.string _=>true
  |some (.struct fs),.agg xs=>!P.stoodInHeld t&&fs.toList.all fun f=>match qrun P (part f.type xs f.offset)with
   |some u=>Mf P d f.type u
   |none=>false
  |some (.array n e),.agg xs=>(P.info? e).isSome&&(List.range n).all fun i=>match qrun P (part e xs (i*P.cellsOf e))with
   |some u=>Mf P d e u
   |none=>false
  |_,_=>false
section
variable {P:Program}
def ZU(P:Program)(d:Nat):Prop:=∀t v,Mf P d t v=true->∀(k:Nat) (w:World),(Op.equalIn (k+d) t v v).run P w=.ok true w
theorem MA{d k:Nat}(ih:ZU P d)(xs:Array Value)(w:World):∀fs:List Field,(fs.all fun f=>match qrun P (part f.type xs f.offset)with
      |some u=>Mf P d f.type u
      |none=>false)=true->(Op.eqFields (k+d) xs xs fs).run P w=.ok true w
 |[],_=>by simp[Op.eqFields]
 | f::fs,h=>by
  rw[List.all_cons,Zs]at h
  have ih2:=MA (k:=k) ih xs w fs h.2
  have h1:=h.1
  unfold Op.eqFields
  split
  ·split at h1
   ·rename_i u hu
    have p:=AT _ hu w
    have e:=ih _ _ h1 k w
    simp only[Sem.run_bind,p,Result.andThen_ok,e,Zo,Zp,if_false,ih2]
   ·cases h1
  ·exact ih2
theorem Py{d k:Nat}(ih:ZU P d)(e:TypeId)(xs:Array Value)(w:World):∀is:List Nat,(is.all fun i=>match qrun P (part e xs (i*P.cellsOf e))with
      |some u=>Mf P d e u
      |none=>false)=true->(Op.eqItems (k+d) e (P.cellsOf e) xs xs is).run P w=.ok true w
 |[],_=>by simp[Op.eqItems]
 | i::is,h=>by
  rw[List.all_cons,Zs]at h
  have ih2:=Py (k:=k) ih e xs w is h.2
  have h1:=h.1
  unfold Op.eqItems
  split at h1
  ·rename_i u hu
   have p:=AT _ hu w
   have e:=ih _ _ h1 k w
   simp only[Sem.run_bind,p,Result.andThen_ok,e,Zo,Zp,if_false,ih2]
  ·cases h1
theorem self_at:∀d,ZU P d
 |0=>fun t v h=>by cases h
 | d+1=>fun t v h k w=>by
  have ih:=self_at d
  unfold Mf at h
  split at h
  ·rename_i hu
   rw[<-Zv,run_equalIn_bool' w _ _ _ _ hu]
   simp
  ·rename_i hu
   rw[<-Zv,run_equalIn_int w _ _ _ _ _ _ hu]
   simp
  ·rename_i hu
   rw[<-Zv,run_equalIn_string w _ _ _ _ hu]
   simp
  ·rename_i fs xs hu
   rw[Zs]at h
   have hf:P.fieldsOf t=fs:=by unfold Program.fieldsOf;rw[hu]
   rw[<-Zv,run_equalIn_struct w _ _ _ _ (by rw[hf];exact hu) (by simpa using h.1),hf]
   exact MA ih xs w _ h.2
  ·rename_i n e xs hu
   rw[Zs]at h
   obtain⟨i,hi⟩:=Option.isSome_iff_exists.1 h.1
   rw[<-Zv,run_equalIn_array w _ _ _ hu hi]
   exact Py ih e xs w _ h.2
  ·cases h
end
structure JJ(w0:World)(B:Nat)(ao:Option Addr)(n cap:Nat)(L:Nat->Int×ByteArray)(sl:Value):Prop where
 rv:∀bl:Bl,bl[0]? =some (some B)->RV bl sl (.slice ao n cap)
 ok:Ch 1 sl=true
 lies:B<w0.heap.size
 idx:∀{i},i<n->sl≠.nilIface
 at_:∀i,i<n->∃o,ao=some ⟨B,o,none⟩/\w0.cell? ⟨B,o+i*2,none⟩=some (.int .i64 (L i).1)/\w0.cell? ⟨B,o+i*2+1,none⟩=some (.string (L i).2)
theorem Pz{w0 w:World}{B:Nat}(h:w.heap[B]? =w0.heap[B]?)(o:Nat):w.cell? ⟨B,o,none⟩=w0.cell? ⟨B,o,none⟩:=by
 unfold World.cell?
 rw[h]
theorem Aru{P:Program}{t:TypeId}{B o:Nat}{w:World}{x y:Value}(ha:qrun P (isAgg t)=some true)(hz:qrun P (sizeOf t)=some 2)(h0:w.cell? ⟨B,o,none⟩=some x)(h1:w.cell? ⟨B,o+1,none⟩=some y):(loadVar t ⟨B,o,none⟩).run P w=.ok (.agg #[x,y]) w:=by
 have r1:=AT _ ha w
 have r2:=AT _ hz w
 unfold loadVar
 simp[Sem.run_bind,r1,r2,loadCells,loadCellsFrom,load,Sem.run,FH,h0,h1]
def Azb(sS sI d0 d1 d2 kN N:Nat)(n:Nat)(L:Nat->Int×ByteArray)(sl:Value)(K:List Value->Xm->Prop)(vt:List Value)(m:Xm):Prop:=
 match vt.getD sI undef with
 | .int .i64 i=>(0<=i/\i.toNat<n)/\vt.getD sS undef=sl/\m.length=kN/\vt.length=N/\K (((vt.set d0 .nilIface).set d1 .nilIface).set d2 (.pointer (some ⟨kN,0,none⟩))) (m++[[.int .i64 (L i.toNat).1,.string (L i.toNat).2]])
 |_=>False
theorem PC{bs:List Nat}{w0:World}{ds:List Deferred}{bl0:Bl}{K:List Value->Xm->Prop}{Q:Exit->Act->World->Prop}{bl:Bl}{vt:List Value}{m:Xm}{a:Act}{w:World}{B:Nat}{ao:Option Addr}{n cap:Nat}{L:Nat->Int×ByteArray}{sl:Value}{ops:Array Oper}{id:Nat}{o0 o1 o2 o3:Oper}{tS tR:TypeId}{sS sI d0 d1 d2 kN N:Nat}(n0:d0<N)(n1:d1<N)(n2:d2<N)(n3:d2≠d1)(hb0:bl0[0]? =some (some B))(hr:JJ w0 B ao n cap L sl)(hu:Zm.underlying tS=some (.slice tR))(hz:qrun Zm (sizeOf tR)=some 2)(ha:qrun Zm (isAgg tR)=some true){z:Value}(hzv:qrun Zm (zeroValue tR)=some z)(hzl:z.cells.toList.length=2)(ho:ops=#[o0,o1,o2,o3])
    (h0:o0.dst=some d0/\o0.op=.indexAddr tS (.tmp sS) (.tmp sI)/\o0.guard=none) (h1:o1.dst=some d1/\o1.op=.load tR (.tmp d0)/\o1.guard=none) (h2:o2.dst=some d2/\o2.op=.alloc tR/\o2.guard=none) (h3:o3.dst=none/\o3.op=.store tR (.tmp d2) (.tmp d1)/\o3.guard=none)
    (h:Azb sS sI d0 d1 d2 kN N n L sl K vt m) (r:Rl bs w0 ds bl0 bl vt m a w) (hK:∀bl vt m a w,K vt m->Rl bs w0 ds bl0 bl vt m a w->Q .normal a w) (hbs:B∉bs:=by simp):(Code.region id ops false).wp Zm Q a w:=by
 subst ho
 have hlen:=r.F.len
 unfold Azb at h
 split at h
 case h_2=>exact h.elim
 rename_i i hi
 obtain⟨⟨hi0,hil⟩,hsl,hm5,hlt,hk⟩:=h
 rw[hlt]at hlen
 have hiv:=r.F.rv sI
 rw[hi]at hiv
 have EsI:a.eval (.tmp sI)=.int .i64 i:=hiv
 have hsv:=r.F.rv sS
 rw[hsl]at hsv
 obtain⟨o,rfl,c0,c1⟩:=hr.at_ i.toNat hil
 have EsS:a.eval (.tmp sS)=.slice (some ⟨B,o,none⟩) n cap:=by
  have h1:=hr.rv bl (r.le 0 B hb0)
  match sl,h1,hsv with
  | .slice (some b) _ _,⟨B1,hB1,e1⟩,⟨B2,hB2,e2⟩=>
   rw[hB1]at hB2
   cases hB2
   exact e2.trans e1.symm
  | .slice none _ _,h1,_=>cases h1
  | .nilIface,h1,_=>exact absurd (hr.idx hil) (by simp)
  | .pointer (some _),⟨_,_,e1⟩,_=>cases e1
  | .pointer none,h1,_=>cases h1
  | .bool _,h1,_=>cases h1
  | .int _ _,h1,_=>cases h1
  | .float _ _,h1,_=>cases h1
  | .complex _ _ _,h1,_=>cases h1
  | .string _,h1,_=>cases h1
  | .map _,h1,_=>cases h1
  | .chan _,h1,_=>cases h1
  | .func _ _ _,h1,_=>cases h1
  | .nilFunc,h1,_=>cases h1
  | .iface _ _,h1,_=>cases h1
  | .agg _,h1,_=>cases h1
  | .tuple _,h1,_=>cases h1
 have hB:w.heap[B]? =w0.heap[B]? :=r.R.block B hr.lies hbs
 rw[<-Pz hB]at c0 c1
 have rld:=Aru (P:=Zm) ha hz c0 c1
 have F:=r.F
 have D:=r.defers
 refine wp_region ?_
 have hil':i<(n:Int):=by omega
 have r0:=BQ hu w
 have r1:=AT _ hz w
 refine As (v:=.nilIface) (v':=(.pointer (some ⟨B,o+i.toNat*2,none⟩))) (w':=w) rfl h0.1 (Am h0.2.2) (by simp[execOp,h0.2.1,EsS,EsI,Instr.indexAt,asIntOf,r0,r1,hi0,hil',FH,Sem.run_bind]) F D hlen n0 (rfl) fun a F D hlen Ed0 X=>?_
 refine As (v:=.nilIface) (v':=(.agg #[.int .i64 (L i.toNat).1,.string (L i.toNat).2])) (w':=w) rfl h1.1 (Am h1.2.2) (by simp[execOp,h1.2.1,Ed0,Instr.loadAt,Instr.sureAddr,rld]) F D hlen n1 (rfl) fun a F D hlen Ed1 X=>?_
 have hw3:(execOp a.eval o2).run Zm w=.ok (.value (.pointer (some ⟨w.heap.size,0,none⟩))) (w.alloc (.cells z.cells.toList.toArray tR)):=by
  have r:=AT _ hzv w
  simp[execOp,h2.2.1,Instr.alloc,newVar,newRow,newObj,r,Sem.run]
 have hbl:bl.length=kN:=r.len.trans hm5
 have WW:=r.R.wide 1 [[.int .i64 (L i.toNat).1,.string (L i.toNat).2]]
 obtain⟨N,hle⟩:=WW.new (k:=kN) (by rw[List.getElem?_append_right (by omega),hbl,Nat.sub_self];rfl) (by rw[Zt,hm5];exact Zx kN) z.cells.toList tR
 have hg5:((bl++Zu 1 none).set kN (some w.heap.size))[kN]? =some (some w.heap.size):=List.getElem?_set_self (by rw[Zt,hbl];exact Zx kN)
 have hm6:((m++[[Value.int .i64 (L i.toNat).1,Value.string (L i.toNat).2]]).set kN z.cells.toList)[kN]? =some z.cells.toList:=List.getElem?_set_self (by rw[Zt,hm5];exact Zx kN)
 obtain⟨row,e5,A5⟩:=N.arr kN _ hg5
 rw[hm6]at e5
 cases e5
 have hst:EU Zm tR z.cells.toList 0 (.agg #[.int .i64 (L i.toNat).1,.string (L i.toNat).2])=some (setAt z.cells.toList 0 [.int .i64 (L i.toNat).1,.string (L i.toNat).2]):=by
  unfold EU
  rw[hz]
  dsimp only
  rw[if_pos (by rw[hzl];rfl)]
  rfl
 obtain⟨r3,_,hl3⟩:=Gn hst A5
 have hL:Le bl ((bl++Zu 1 none).set kN (some w.heap.size)):=(Le.wide bl 1).trans hle
 have F:=F.mono hL
 refine As (v:=.pointer (some ⟨kN,0,none⟩)) rfl h2.1 (Am h2.2.2) hw3 F D hlen n2 (RV.at hg5 0) fun a F D hlen Ed2 X=>?_
 have Ed1:=(X d1 n3).trans Ed1
 refine Of (o:=o3) (w':=JQ (w.alloc (.cells z.cells.toList.toArray tR)) w.heap.size 0 [.int .i64 (L i.toNat).1,.string (L i.toNat).2]) rfl h3.2.2 ?_ ?_
 ·simp[execOp,h3.2.1,Ed2,Ed1,Instr.storeAt,Instr.sureAddr,r3]
  rfl
 rw[h3.1]
 have hrow5:setAt z.cells.toList 0 [.int .i64 (L i.toNat).1,.string (L i.toNat).2]=[.int .i64 (L i.toNat).1,.string (L i.toNat).2]:=by
  match z.cells.toList,hzl with
  |[_,_],_=>rfl
 have R5:=N.store hg5 hm6 0 [.int .i64 (L i.toNat).1,.string (L i.toNat).2] hl3
 rw[hrow5]at R5
 have hmm:((m++[[Value.int .i64 (L i.toNat).1,Value.string (L i.toNat).2]]).set kN z.cells.toList).set kN [Value.int .i64 (L i.toNat).1,Value.string (L i.toNat).2]=m++[[Value.int .i64 (L i.toNat).1,Value.string (L i.toNat).2]]:=by
  rw[List.set_set,List.set_append_right _ _ (by omega),hm5,Nat.sub_self]
  rfl
 rw[hmm]at R5
 exact hK _ _ _ _ _ hk ⟨F,R5,r.le.trans hL,by rw[List.length_set,Zt,Zt,hbl,hm5];rfl,by rw[AL];exact D⟩
theorem ZV(c:Cra)(w:World):(Op.equalIn 10000 42 (.agg (C5.enc c).toArray) (.agg (C5.enc c).toArray)).run Zm w=.ok true w:=self_at 6 42 _ (by kernel_rfl) 9994 w
def StepOk(x:Cra×Int×ByteArray):Prop:=He x.1/\x.1.2.2.1.size+x.2.2.size<=5000
def AP3(x:Int):Int:=if 1000000<(if-1000000>x then-1000000 else x)then 1000000 else(if-1000000>x then-1000000 else x)
section
variable (F:Fs) (hF:FsIs F) (f:Nat) (Held:Cra->Cra->Tel->ByteArray->Prop) (ao:Option Addr) (nn cap:Nat) (L:Nat->Int×ByteArray) (sl:Value)
end
def ML(L:Nat->Int×ByteArray):Nat->Nat->Nat
 |_,0=>0
 |i,k+1=>(L i).2.size+ML L (i+1) k
theorem Ahx(F:Fs)(t:Int):takeW F zeroCra t noBytes=(Mn zeroCra (restOf []),IE):=rfl
theorem Ahy(b:Bool):Cw 0 b<=1:=by
 unfold Cw
 cases b
 ·decide
 ·decide
theorem Ahz{s:See}(h:s.2.2.2.2.2.2.2=0):(Ir ((0,0,0,0,0,0,()),s)).1=0:=by
 show(nextW ⟨0,0,0,0,0,0⟩ (Ahj s)).mode=0
 have h1:¬(Ahj s).order=1:=by
  show ¬s.2.2.2.2.2.2.2=1
  omega
 unfold nextW Pd
 rw[if_neg h1,if_neg (by decide),if_pos rfl]
 unfold Zb
 dsimp only
 rw[if_neg (by have:=Ahy ((Ahj s).gyro&&(Ahj s).slow);omega)]
theorem ZW{F:Fs}(hF:FsIs F):(stepF F zeroCra 5 noBytes).1.1=true/\(telF F (stepF F zeroCra 5 noBytes).1).1=5/\(telF F (stepF F zeroCra 5 noBytes).1).2.1=0/\He (stepF F zeroCra 5 noBytes).1:=by
 have hs:I6 zeroCra 5=false:=rfl
 obtain⟨k,_⟩:=Ay6 hF He.zero noBytes hs
 refine⟨k.on,k.tick,?_,k.inv⟩
 show(Cj (stepF F zeroCra 5 noBytes).1).1=0
 obtain⟨p,s,hp,_,ho,_,hn⟩:=k.plan
 rw[Ahx]at ho
 have hp:p=(0,0,0,0,0,0,()):=by
  rcases hp with e |e<;>rw[e]<;>rfl
 subst hp
 have hz:=Ahz ho
 rcases hn with e |⟨e,_⟩
 ·rw[e]
  exact hz
 ·exact absurd (hz.symm.trans e) (by decide)
def Iw(P:Program)(fn:Func)(Post:Value->Prop)(Q:VQ):VQ:=fun e vt m=>match e with
 | .ret=>Bz P fn (fun v _=>Post v) .ret vt m
 |e=>Q e vt m
section
variable (ao:Option Addr) (nn cap:Nat) (L:Nat->Int×ByteArray) (sl:Value)
end
section
variable (ao:Option Addr) (nn cap:Nat) (L:Nat->Int×ByteArray) (sl:Value)
end
theorem Arv{sl:Value}(h:Ch 1 sl=true){k:Nat}(hk:1<=k):Ch k sl=true:=by
 match sl,h with
 | .pointer (some a),hp=>exact decide_eq_true (by have:=of_decide_eq_true hp;omega)
 | .slice (some a) _ _,hp=>exact decide_eq_true (by have:=of_decide_eq_true hp;omega)
 | .slice none _ _,_=>rfl
 | .pointer none,_=>rfl
 | .bool _,_=>rfl
 | .int _ _,_=>rfl
 | .float _ _,_=>rfl
 | .complex _ _ _,_=>rfl
 | .string _,_=>rfl
 | .map _,_=>rfl
 | .chan _,_=>rfl
 | .func _ _ _,_=>rfl
 | .nilFunc,_=>rfl
 | .nilIface,_=>rfl
 | .iface _ _,_=>rfl
 | .agg _,_=>rfl
 | .tuple _,_=>rfl
theorem KV{P:Program}{fn:Func}{Post:Value->Prop}{k:Nat}{G:VQ->List Value->Xm->Prop}{Q:VQ}{vt:List Value}{m:Xm}:AS (k+1) G (Iw P fn Post Q) vt m=G (Iw P fn Post (fun e vt' m'=>match e with
    | .normal=>AS k G (Iw P fn Post Q) vt' m'
    |e=>Q e vt' m')) vt m:=by
 rw[AS]
 congr 1
 funext e vt' m'
 cases e<;>rfl
theorem JJ.same{w w':World}{B:Nat}{ao:Option Addr}{n cap:Nat}{L:Nat->Int×ByteArray}{sl:Value}(h:JJ w B ao n cap L sl)(hb:Below w.heap.size w w'):JJ w' B ao n cap L sl:=by
 have e:=hb.block B h.lies
 exact⟨h.rv,h.ok,Nat.lt_of_lt_of_le h.lies hb.size,h.idx,fun i hi=>let ⟨o,h1,h2,h3⟩:=h.at_ i hi;⟨o,h1,by rw[Pz e];exact h2,by rw[Pz e];exact h3⟩⟩
def AHu(sS d0 d1 d2 N:Nat)(n:Nat)(sl:Value)(K:List Value->Xm->Prop)(vt:List Value)(m:Xm):Prop:=
 vt.getD sS undef=sl/\vt.length=N/\K (((vt.set d0 sl).set d1 (.int .i64 (n:Nat))).set d2 (.int .i64 0)) m
section
variable {bs:List Nat} {w0:World} {ds:List Deferred} {bl0:Bl} {K:List Value->Xm->Prop} {Q:Exit->Act->World->Prop} {bl:Bl} {vt:List Value} {m:Xm} {a:Act} {w:World} {B:Nat} {ao:Option Addr} {n cap:Nat} {L:Nat->Int×ByteArray} {sl:Value}
theorem TR{s:Nat}(hb0:bl0[0]? =some (some B))(hr:JJ w0 B ao n cap L sl)(hn:sl≠.nilIface)(hs:vt.getD s undef=sl)(r:Rl bs w0 ds bl0 bl vt m a w):a.eval (.tmp s)=.slice ao n cap:=by
 have hsv:=r.F.rv s
 rw[hs]at hsv
 have h1:=hr.rv bl (r.le 0 B hb0)
 match sl,h1,hsv with
 | .slice (some b) _ _,⟨B1,hB1,e1⟩,⟨B2,hB2,e2⟩=>
  rw[hB1]at hB2
  cases hB2
  exact e2.trans e1.symm
 | .slice none _ _,h1,h2=>exact h2.trans h1.symm
 | .nilIface,_,_=>exact absurd rfl hn
 | .pointer (some _),⟨_,_,e1⟩,_=>cases e1
 | .pointer none,h1,_=>cases h1
 | .bool _,h1,_=>cases h1
 | .int _ _,h1,_=>cases h1
 | .float _ _,h1,_=>cases h1
 | .complex _ _ _,h1,_=>cases h1
 | .string _,h1,_=>cases h1
 | .map _,h1,_=>cases h1
 | .chan _,h1,_=>cases h1
 | .func _ _ _,h1,_=>cases h1
 | .nilFunc,h1,_=>cases h1
 | .iface _ _,h1,_=>cases h1
 | .agg _,h1,_=>cases h1
 | .tuple _,h1,_=>cases h1
theorem PD{ops:Array Oper}{id:Nat}{o0 o1 o2:Oper}{tS tE:TypeId}{sS d0 d1 d2 N:Nat}(n0:d0<N)(n1:d1<N)(n2:d2<N)(hb0:bl0[0]? =some (some B))(hr:JJ w0 B ao n cap L sl)(hn:sl≠.nilIface)(hu:Zm.underlying tS=some (.slice tE))(ho:ops=#[o0,o1,o2])
    (h0:o0.dst=some d0/\o0.op=.move (.tmp sS)/\o0.guard=none) (h1:o1.dst=some d1/\o1.op=.call {callee:=.builtin .len,args:=#[.tmp d0],argTypes:=#[tS]}/\o1.guard=none) (h2:o2.dst=some d2/\o2.op=.move (.const (.int .i64 0))/\o2.guard=none)
    (h:AHu sS d0 d1 d2 N n sl K vt m) (r:Rl bs w0 ds bl0 bl vt m a w) (hK:∀bl vt m a w,K vt m->Rl bs w0 ds bl0 bl vt m a w->Q .normal a w):(Code.region id ops false).wp Zm Q a w:=by
 subst ho
 have hlen:=r.F.len
 obtain⟨hp,hlt,hk⟩:=h
 rw[hlt]at hlen
 have EsS:=TR hb0 hr hn hp r
 have hrv:=hr.rv bl (r.le 0 B hb0)
 have r0:=BQ hu w
 have F:=r.F
 have D:=r.defers
 refine wp_region ?_
 refine As (v:=sl) (v':=(.slice ao n cap)) (w':=w) rfl h0.1 (Am h0.2.2) (by simp[execOp,h0.2.1,EsS]) F D hlen n0 (hrv) fun a F D hlen Ed0 X=>?_
 refine As (v:=.int .i64 (n:Nat)) (v':=(.int .i64 (n:Nat))) (w':=w) rfl h1.1 (Am h1.2.2) (by simp[execOp,h1.2.1,resolve,invoke,builtin,Ed0,Builtin.len_,r0,goInt]) F D hlen n1 (rfl) fun a F D hlen Ed1 X=>?_
 refine As (v:=.int .i64 0) (v':=(.int .i64 0)) (w':=w) rfl h2.1 (Am h2.2.2) (by simp[execOp,h2.2.1,Act.eval]) F D hlen n2 (rfl) fun a F D hlen Ed2 X=>?_
 exact hK _ _ _ _ _ hk ⟨F,r.R,r.le,r.len,D⟩
theorem WF{ops:Array Oper}{rest:List Nat}{tbl:List (Ct Zm)}(hnew:ops.all (fun o=>!Cu o)=true)(hnd:rest.Nodup)(hk:EG Zm tbl ops (EV 0 ops) K rest vt m)(r:Rl bs w0 ds bl0 bl vt m a w)(hK:∀bl vt m a w,K vt m->Rl bs w0 ds bl0 bl vt m a w->Q .normal a w):wpOps Zm ops Q rest a w:=by
 refine EW (base:=0) (rs:=m) (ln:=m.length) (bl0:=bl0) (tbl:=tbl) (fun bl' vt' m' a' w' hk F R hle hl hml hd=>hK bl' vt' m' a' w' hk ⟨F,R,hle,hl.trans hml.symm,hd⟩) rest bl _ m _ w hnd hk r.F r.R (fun _ _=>rfl) ?_ r.le r.len rfl r.defers
 intro i _ o ho hn
 have:=Array.all_eq_true_iff_forall_mem.1 hnew o (Array.mem_of_getElem? ho)
 rw[hn]at this
 cases this
end
def fwK:List Nat:=[3,7,8,0,6]
def fwF(s n i:Int)(sl:Value)(d:Nat->Value):List Value:=Kl [(3,.int .i64 s),(7,.int .i64 n),(8,.int .i64 i),(0,sl),(6,sl)] d 23
def fwE(s n i:Int)(sl:Value)(d:Nat->Value):List Value:=vset ((fwF s n i sl d).set 9 (.bool (decide (i<n)))) (.tmp 9) false
def fwG(n:Nat)(sl:Value)(ops:Array Oper)(K:List Value->Xm->Prop)(vt:List Value)(m:Xm):Prop:=
 vt.getD 0 undef=sl/\vt.length=23/\EG Zm [] ops (EV 0 ops) K [2,3] ((vt.set 20 sl).set 21 (.int .i64 (n:Nat))) m
def fwO(n:Nat)(L:Nat->Int×ByteArray)(sl:Value):Ov:=fun id=>match id with
 |2=>some fun _ _ K=>AHu 0 6 7 8 23 n sl (Jl fwK 23 1 K)
 |4=>some fun _ _=>Azb 6 8 10 11 5 1 23 n L sl
 |8=>some (Du Zm [] (fun _=>[]) 8 fwK 23 1)
 |9=>some fun ops _=>fwG n sl ops
 |_=>none
def fwB(P:Program):Code:=Bd [true,true,false,true] (An P 5)
def fwL(P:Program):Code:=Bd [false,false] (fwB P)
def fwZ(P:Program):Code:=Bd [true,true,true] (An P 5)
section
variable (nn:Nat) (L:Nat->Int×ByteArray) (sl:Value)
abbrev fwS(k:Nat)(c:Code):VQ->List Value->Xm->Prop:=Ao Zm [] (fun _=>[]) k (fwO nn L sl) c
theorem Arw(k:Nat)(s n i:Int)(d:Nat->Value)(Post:Value->Prop)(Q:VQ):
    fwS nn L sl k (fwL Zm) (Iw Zm (Ba Zm 5) Post Q) (fwF s n i sl d) [[]]=
      AE (decide (i<n)) ((0<=i/\i.toNat<nn)/\sl=sl/\1=1/\23=23/\AE (decide (IntKind.i64.wrap (s+((L i.toNat).2.size:Nat))>3000)) (Post (.bool false)) (23=23/\(Ch 1 sl&&(Ch 1 sl&&true))=true/\∀d,Q .normal (fwF (IntKind.i64.wrap (s+((L i.toNat).2.size:Nat))) n (IntKind.i64.wrap (i+1)) sl d) [[]]))
      (Q (.exit 0) (fwE s n i sl d) [[]]):=by kernel_rfl
theorem AHw(k:Nat)(s n i:Int)(d:Nat->Value)(Post:Value->Prop):
    fwS nn L sl k (fwZ Zm) (Bz Zm (Ba Zm 5) (fun v _=>Post v)) (fwE s n i sl d) [[]]=(sl=sl/\23=23/\Post (.bool (decide (((nn:Nat):Int)<=30)))):=by kernel_rfl
def fwQ(k:Nat)(Q:VQ):VQ:=fun e vt m=>match e with
 | .normal=>fwS nn L sl k (fwZ Zm) Q vt m
 |e=>Q e vt m
theorem Arx(k:Nat)(Q:VQ):
    fwS nn L sl k (An Zm 5) Q ([sl]++Zu ((Ba Zm 5).ntmps-1) undef) [[]]=
      (sl=sl/\23=23/\23=23/\(Ch 1 sl&&(Ch 1 sl&&true))=true/\∀d,fwS nn L sl k (fwB Zm) (fwQ nn L sl k Q) (fwF 0 nn 0 sl d) [[]]):=by kernel_rfl
end
theorem Ah0{w0:World}{ds:List Deferred}{bl0:Bl}{K:List Value->Xm->Prop}{Q:Exit->Act->World->Prop}{bl:Bl}{vt:List Value}{m:Xm}{a:Act}{w:World}{B:Nat}{ao:Option Addr}{n cap:Nat}{L:Nat->Int×ByteArray}{sl:Value}{ops:Array Oper}{id:Nat}{o0 o1:Oper}{tS tE:TypeId}(hb0:bl0[0]? =some (some B))(hr:JJ w0 B ao n cap L sl)(hn:sl≠.nilIface)(hu:Zm.underlying tS=some (.slice tE))(hnew:ops.all (fun o=>!Cu o)=true)(hsz:List.range ops.size=[0,1,2,3])
    (g0:ops[0]? =some o0) (g1:ops[1]? =some o1) (h0:o0.dst=some 20/\o0.op=.move (.tmp 0)/\o0.guard=none) (h1:o1.dst=some 21/\o1.op=.call {callee:=.builtin .len,args:=#[.tmp 20],argTypes:=#[tS]}/\o1.guard=none)
    (h:fwG n sl ops K vt m) (r:Rl [] w0 ds bl0 bl vt m a w) (hK:∀bl vt m a w,K vt m->Rl [] w0 ds bl0 bl vt m a w->Q .normal a w):(Code.region id ops false).wp Zm Q a w:=by
 have hlen:=r.F.len
 obtain⟨hp,hlt,hk⟩:=h
 rw[hlt]at hlen
 have E0:=TR hb0 hr hn hp r
 have hrv:=hr.rv bl (r.le 0 B hb0)
 have r0:=BQ hu w
 have F:=r.F
 have D:=r.defers
 refine wp_region ?_
 rw[hsz]
 refine As (v:=sl) (v':=(.slice ao n cap)) (w':=w) g0 h0.1 (Am h0.2.2) (by simp[execOp,h0.2.1,E0]) F D hlen (by decide) (hrv) fun a F D hlen E20 X=>?_
 refine As (v:=.int .i64 (n:Nat)) (v':=(.int .i64 (n:Nat))) (w':=w) g1 h1.1 (Am h1.2.2) (by simp[execOp,h1.2.1,resolve,invoke,builtin,E20,Builtin.len_,r0,goInt]) F D hlen (by decide) (rfl) fun a F D hlen E21 X=>?_
 exact WF hnew (by decide) hk ⟨F,r.R,r.le,r.len,D⟩ hK
theorem AMw{B:Nat}{ao:Option Addr}{nn cap:Nat}{L:Nat->Int×ByteArray}{sl:Value}{w:World}(hr:JJ w B ao nn cap L sl)(hn:sl≠.nilIface):D5 Zm (fwO nn L sl) [] w [] [some B] (An Zm 5):=by
 refine CV (ns:=[(2,#[(opOf Zm 5 2 0),(opOf Zm 5 2 1),(opOf Zm 5 2 2)],false),(4,#[(opOf Zm 5 4 0),(opOf Zm 5 4 1),(opOf Zm 5 4 2),(opOf Zm 5 4 3)],false),(8,Cg Zm 5 8,false),(9,Cg Zm 5 9,false)]) (by kernel_rfl) ?_
 intro r hr'
 rcases Zr.1 hr' with rfl |hr'
 ·intro R hR K Q bl vt m a w1 h r hK
  cases hR
  refine PD (K:=Jl fwK 23 1 K) (tS:=22) (tE:=44) (by decide) (by decide) (by decide) rfl hr hn (by kernel_rfl) rfl ⟨by kernel_rfl,by kernel_rfl,by kernel_rfl⟩ ⟨by kernel_rfl,by kernel_rfl,by kernel_rfl⟩ ⟨by kernel_rfl,by kernel_rfl,by kernel_rfl⟩ h r (fun bl vt m a w hk hrl=>?_)
  obtain⟨bl',vt',m',k1,k2⟩:=hrl.cut (show 1<=1 by decide) hk
  exact hK bl' vt' m' a w k1 k2
 rcases Zr.1 hr' with rfl |hr'
 ·intro R hR K Q bl vt m a w1 h r hK
  cases hR
  exact PC (by decide) (by decide) (by decide) (by decide) (B:=B) (tS:=22) (tR:=44) (z:=.agg #[.int .i64 0,.string ⟨#[]⟩]) rfl hr (by kernel_rfl) (by kernel_rfl) (by kernel_rfl) (by kernel_rfl) rfl rfl ⟨by kernel_rfl,by kernel_rfl,by kernel_rfl⟩ ⟨by kernel_rfl,by kernel_rfl,by kernel_rfl⟩ ⟨by kernel_rfl,by kernel_rfl,by kernel_rfl⟩ ⟨by kernel_rfl,by kernel_rfl,by kernel_rfl⟩ h r hK
 rcases Zr.1 hr' with rfl |hr'
 ·intro R hR K Q bl vt m a w1 h r hK
  cases hR
  exact By xmixA (show 1<=1 by decide) h r hK
 rcases Zr.1 hr' with rfl |hr'
 ·intro R hR K Q bl vt m a w1 h r hK
  cases hR
  exact Ah0 (o0:=opOf Zm 5 9 0) (o1:=opOf Zm 5 9 1) (tS:=22) (tE:=44) rfl hr hn (by kernel_rfl) (by kernel_rfl) (by kernel_rfl) (by kernel_rfl) (by kernel_rfl) ⟨by kernel_rfl,by kernel_rfl,by kernel_rfl⟩ ⟨by kernel_rfl,by kernel_rfl,by kernel_rfl⟩ h r hK
 ·cases hr'
theorem Azc{P:Program}{fn:Func}{nn:Nat}{L:Nat->Int×ByteArray}{sl:Value}{Post:Value->Prop}{G:VQ->List Value->Xm->Prop}(hG:∀(s n i:Int) (d:Nat->Value) (Q:VQ),G (Iw P fn Post Q) (fwF s n i sl d) [[]]=
      AE (decide (i<n)) ((0<=i/\i.toNat<nn)/\sl=sl/\1=1/\23=23/\AE (decide (IntKind.i64.wrap (s+((L i.toNat).2.size:Nat))>3000)) (Post (.bool false)) (23=23/\(Ch 1 sl&&(Ch 1 sl&&true))=true/\∀d,Q .normal (fwF (IntKind.i64.wrap (s+((L i.toNat).2.size:Nat))) n (IntKind.i64.wrap (i+1)) sl d) [[]]))
      (Q (.exit 0) (fwE s n i sl d) [[]])) (hn:nn<=1000000000000000) (hz:∀i,i<nn->(L i).2.size<=1000000000000000) (hp:Ch 1 sl=true) (hf:Post (.bool false)) (Q:VQ)
    (hQ:∀s i d,s+0<=3000->ML L 0 nn=s->Q (.exit 0) (fwE s nn i sl d) [[]]) (k:Nat):∀(i:Nat),i+k=nn->∀(s:Nat) (d:Nat->Value),s<=3000->ML L 0 nn=s+ML L i k->AS (k+1) G (Iw P fn Post Q) (fwF s nn i sl d) [[]]:=by
 induction k with
 |zero=>
  intro i e s d hs hr
  rw[KV,hG,decide_eq_false (by omega)]
  exact hQ s i d (by omega) hr
 | succ k ih=>
  intro i e s d hs hr
  have hr:ML L 0 nn=s+((L i).2.size+ML L (i+1) k):=hr
  have hzi:=hz i (by omega)
  rw[KV,hG,decide_eq_true (by omega),Zw]
  have hw:IntKind.i64.wrap ((i:Int)+1)=((i+1:Nat):Int):=by
   rw[IntKind.wrap_i64]
   omega
  have hv:IntKind.i64.wrap ((s:Int)+((L i).2.size:Nat))=((s+(L i).2.size:Nat):Int):=by
   rw[IntKind.wrap_i64]
   omega
  rw[hw,hv]
  refine⟨⟨by omega,by omega⟩,rfl,rfl,rfl,?_⟩
  by_cases hg:((s+(L i).2.size:Nat):Int)>3000
  ·rw[decide_eq_true hg]
   exact hf
  ·rw[decide_eq_false hg]
   refine⟨rfl,by rw[hp];rfl,fun d=>?_⟩
   exact ih (i+1) (by omega) (s+(L i).2.size) d (by omega) (by omega)
def Ah1(id:Nat)(Q:VQ):VQ:=fun e vt' m'=>match e with
 | .exit id'=>if id'=id then Q .normal vt' m' else Q (.exit id') vt' m'
 |e=>Q e vt' m'
theorem Ac9{B:Nat}{ao:Option Addr}{nn cap:Nat}{L:Nat->Int×ByteArray}{sl:Value}{w:World}(hw:GW w)(hr:JJ w B ao nn cap L sl):RW [] w [some B] [[]] w:=by
 refine⟨fun i C hi=>?_,fun i j C hi hj=>?_,fun i C hi=>?_,rfl,rfl,rfl,Nat.le_refl _,fun _ _ _=>rfl,hw,fun b hb=>by cases hb⟩
 ·match i,hi with
  |0,hi=>cases hi;exact⟨[],rfl,fun i h=>absurd h (Zn i),fun i h=>absurd h (Zn i),hr.lies⟩
 ·match i,j,hi,hj with
  |0,0,_,_=>rfl
 ·match i,hi with
  |0,_=>exact .inr (.inr rfl)
theorem AHx{B:Nat}{ao:Option Addr}{nn cap:Nat}{L:Nat->Int×ByteArray}{sl:Value}(w:World)(hw:GW w)(hr:JJ w B ao nn cap L sl)(hs:sl≠.nilIface)(hn:nn<=1000000000000000)(hz:∀i,i<nn->(L i).2.size<=1000000000000000):
    Calls Zm 5 #[.slice ao nn cap] w fun e w'=>(∃b,e=.returned (.bool b)/\(b=true->nn<=30/\ML L 0 nn<=3000))/\Below w.heap.size w w':=by
 have key:∃Post:Value->Prop,Post=fun v=>∃b,v=.bool b/\(b=true->nn<=30/\ML L 0 nn<=3000):=⟨_,rfl⟩
 obtain⟨Post,hPost⟩:=key
 have hf:Post (.bool false):=by rw[hPost];exact⟨false,rfl,fun h=>by cases h⟩
 refine Calls.mono (F8 (tbl:=[]) (dirty:=fun _=>[]) (n:=nn+1) (ov:=fwO nn L sl) xmixA (f:=5) (fn:=Ba Zm 5) (c:=An Zm 5) (by kernel_rfl) (by kernel_rfl) (vargs:=[sl]) (args:=#[.slice ao nn cap]) (Ac9 hw hr) rfl rfl (fun i=>?_) (Post:=fun v _=>Post v) (AMw hr hs) ?_) ?_
 ·match i with
  |0=>exact hr.rv [some B] rfl
  |_+1=>rfl
 ·refine Eq.mpr (Arx nn L sl (nn+1) _) ⟨rfl,rfl,rfl,by rw[hr.ok];rfl,fun d=>?_⟩
  have e:Iw Zm (Ba Zm 5) Post (Ah1 0 (fwQ nn L sl (nn+1) (Bz Zm (Ba Zm 5) (fun v _=>Post v))))=Ah1 0 (fwQ nn L sl (nn+1) (Bz Zm (Ba Zm 5) (fun v _=>Post v))):=by
   funext e vt m
   cases e<;>rfl
  have hl:=Azc (P:=Zm) (fn:=Ba Zm 5) (nn:=nn) (L:=L) (sl:=sl) (Post:=Post) (fun s n i d Q=>Arw nn L sl (nn+1) s n i d Post Q) hn hz hr.ok hf (Ah1 0 (fwQ nn L sl (nn+1) (Bz Zm (Ba Zm 5) (fun v _=>Post v)))) (fun s i d hs hrm=>?_) nn 0 (by omega) 0 d (by omega) (by omega)
  ·rw[e]at hl
   exact hl
  ·refine Eq.mpr (AHw nn L sl (nn+1) s nn i d Post) ⟨rfl,rfl,?_⟩
   rw[hPost]
   exact⟨_,rfl,fun h=>⟨by have:=of_decide_eq_true h;omega,by omega⟩⟩
 ·rintro e w' ⟨v,bl',m2,rfl,hv,R',_⟩
  rw[hPost]at hv
  obtain⟨b,rfl,hb⟩:=hv
  exact⟨⟨b,rfl,hb⟩,R'.os,R'.tape,R'.output,R'.size,fun i hi=>R'.block i hi (by simp)⟩
def AHy(P:Program)(a d:Cra):Bool:=(Nv P 8 42 (.agg (C5.enc a).toArray) (.agg (C5.enc d).toArray)).getD false
theorem Ah2(a:Cra):AHy Zm a a=true:=by
 have hs:(Nv Zm 8 42 (.agg (C5.enc a).toArray) (.agg (C5.enc a).toArray)).isSome=true:=by kernel_rfl
 unfold AHy
 cases h:Nv Zm 8 42 (.agg (C5.enc a).toArray) (.agg (C5.enc a).toArray)with
 |none=>rw[h]at hs;cases hs
 |some r=>
  have h1:=RF 8 _ _ _ _ h 9992 (default:World)
  have h2:=ZV a (default:World)
  rw[h1]at h2
  cases h2
  rfl
def laterT(x:Int×Int):Int:=IntKind.i64.wrap (x.1+AP3 x.2)
theorem Ary:Ah Zm 6 (Ac cI (Aa cI)) laterT cI:=Av (tbl:=[]) (dirty:=fun _=>[]) (n:=4) xmixA Tryz.func6 rfl (fun x Post=>by kernel_rfl)
def Azd:Ct Zm:=Aq Zm 6 (Ac cI (Aa cI)) laterT cI (Ae Tryz.func6 (by kernel_rfl) (by kernel_rfl)) Ary
theorem Ah3(T:Tl):(bytesOf T).size=31:=by
 have hn:(Fh (tlL T)).data.toList.length=26:=Pt T
 have hw:=SO 32 (Fh (tlL T)).data.toList
 have hb:(bytesOf T).size=(CH 32 (Fh (tlL T)).data.toList).length:=rfl
 omega
theorem AHz{d:Cra}{t:Int}(h1:d.1=true)(h2:d.2.1=t):((true,t,d.2.2):Cra)=d:=by
 subst h2
 rw[<-h1]
theorem ZX{F:Fs}(hF:FsIs F):Ah Zm 4 Mi (fun _=>true) cB:=fun x w hw=>by
 obtain⟨h1,h2,_,hi⟩:=ZW hF
 have h2:(stepF F zeroCra 5 noBytes).1.2.1=5:=h2
 have hb:=(Ay6 hF He.zero noBytes (show I6 zeroCra 5=false from rfl)).2
 have hst:∀w,GW w->Calls Zm 7 ((Ac cCra (Ac cI (Aa cS))).enc (zeroCra,5,noBytes)).toArray w fun e w'=>e=.returned ((Au cCra cS).enc ((true,5,(stepF F zeroCra 5 noBytes).1.2.2),bytesOf (tlOf (telF F (stepF F zeroCra 5 noBytes).1))))/\Below w.heap.size w w':=fun w hw=>by
  have:=Wx hF.ok zeroCra 5 noBytes (show(0:Nat)<=5000 by decide) w hw
  rw[hb]at this
  rw[AHz h1 h2]
  exact this
 have hz:=Ah3 (tlOf (telF F (stepF F zeroCra 5 noBytes).1))
 generalize bytesOf (tlOf (telF F (stepF F zeroCra 5 noBytes).1))=s at hst hz
 generalize (stepF F zeroCra 5 noBytes).1.2.2=e at hst
 refine Bj (d:=Mi) (k:=cB) (x:=()) (y:=true) (tbl:=[Aeo Zm 7 (Ac cCra (Ac cI (Aa cS))) (Au cCra cS) (zeroCra,5,noBytes) ((true,5,e),s) (Ae Tryz.func7 (by kernel_rfl) (by kernel_rfl)) hst]) (dirty:=fun _=>[]) (n:=4) xmixA Tryz.func4 rfl (fun Post hP=>?_) w hw
 refine Eq.mpr (β:=(Ac cCra (Ac cI (Aa cS))).enc (zeroCra,5,noBytes)=(Ac cCra (Ac cI (Aa cS))).enc (zeroCra,5,noBytes)/\Post (.bool (decide (((s.size:Nat):Int)=31)))) (by kernel_rfl) ⟨rfl,?_⟩
 rw[hz]
 exact hP
def Aze(F:Fs)(hF:FsIs F):Ct Zm:=Aq Zm 4 Mi (fun _=>true) cB (Ae Tryz.func4 (by kernel_rfl) (by kernel_rfl)) (ZX hF)
def CrQ(x:Cra×Int×ByteArray):Prop:=He x.1/\DrI (Ha x.1)/\x.1.2.2.1.size+x.2.2.size<=5000
structure BothOk(F D:Fs):Prop where
 is:FsIs F
 ds:DsOk D
 same:Ft F D
 next:EB F
def AH1(F D:Fs)(h:BothOk F D):Ct Zm:=Axe Zm 7 (Ac cCra (Ac cI (Aa cS))) CrQ (fun x=>stepF F x.1 x.2.1 x.2.2) (Au cCra cS) (Ae Tryz.func7 (by kernel_rfl) (by kernel_rfl)) (fun x w hx hw=>Wx h.is.ok x.1 x.2.1 x.2.2 hx.2.2 w hw)
def Azf(F D:Fs)(h:BothOk F D):Ct Zm:=Axe Zm 8 (Ac cCra (Ac cI (Aa cS))) CrQ (fun x=>stepF F x.1 x.2.1 x.2.2) (Au cCra cS) (Ae Tryz.func8 (by kernel_rfl) (by kernel_rfl)) (fun x w hx hw=>by
 have k:=Art D h.ds x hx.2.2 w hw
 rw[(Rq h.is h.same h.next hx.1 hx.2.1 x.2.1 x.2.2).1]at k
 exact k)
def crK:List Nat:=[5,6,7,28,29,30]
def crF(t n i:Int)(sl:Value)(d:Nat->Value):List Value:=Kl [(5,ptr 1),(6,ptr 2),(7,.int .i64 t),(28,sl),(29,.int .i64 n),(30,.int .i64 i)] d 65
def crE(t n i:Int)(sl:Value)(d:Nat->Value):List Value:=vset ((crF t n i sl d).set 31 (.bool (decide (i<n)))) (.tmp 31) false
def crC(c:Cra):Xm:=[[],C5.enc c,C5.enc c]
def crT(F D:Fs)(h:BothOk F D):List (Ct Zm):=[Aze F h.is,Azd,AH1 F D h,Azf F D h]
def crG(nn:Nat)(L:Nat->Int×ByteArray)(sl:Value)(ops:Array Oper)(K:List Value->Xm->Prop)(vt:List Value)(m:Xm):Prop:=
 vt.getD 1 undef=sl/\vt.length=65/\∀b,(b=true->nn<=30/\ML L 0 nn<=3000)->EG Zm [] ops (EV 0 ops) K [2,3,4,5,6,7,8,9,10] ((vt.set 16 sl).set 17 (.bool b)) m
def crO(F D:Fs)(h:BothOk F D)(nn:Nat)(L:Nat->Int×ByteArray)(sl:Value):Ov:=fun id=>match id with
 |3=>some fun ops _=>crG nn L sl ops
 |7=>some fun _ _ K=>AHu 1 28 29 30 65 nn sl (Jl crK 65 3 K)
 |9=>some fun _ _=>Azb 28 30 32 33 9 3 65 nn L sl
 |16=>some (Du Zm (crT F D h) (fun _=>[]) 16 crK 65 3)
 |_=>none
def crB(P:Program):Code:=Bd [true,true,true,true,true,false,true] (An P 3)
def crL(P:Program):Code:=Bd [false,false] (crB P)
def crZ(P:Program):Code:=Bd [true,true,true,true,true,true] (An P 3)
def TS(P:Program):Func:=Ba P 3
section
variable (F D:Fs) (h:BothOk F D) (nn:Nat) (L:Nat->Int×ByteArray) (sl:Value)
abbrev crS(k:Nat)(c:Code):VQ->List Value->Xm->Prop:=Ao Zm (crT F D h) (fun _=>[]) k (crO F D h nn L sl) c
def crN(t n i:Int)(Q:VQ)(c:Cra):Prop:=65=65/\(Ch 3 sl&&true)=true/\∀d,Q .normal (crF t n (IntKind.i64.wrap (i+1)) sl d) (crC c)
def crA(Post:Value->Prop)(t n i:Int)(Q:VQ)(r:Cra×ByteArray):Prop:=AE (!AHy Zm r.1 r.1) (Post (.bool false)) (AE (!(r.2.toList==r.2.toList)) (Post (.bool false)) (crN sl t n i Q r.1))
theorem Arz(k:Nat)(t n i:Int)(d:Nat->Value)(c:Cra)(Post:Value->Prop)(Q:VQ):
    crS F D h nn L sl k (crL Zm) (Iw Zm (TS Zm) Post Q) (crF t n i sl d) (crC c)=
      AE (decide (i<n)) ((0<=i/\i.toNat<nn)/\sl=sl/\3=3/\65=65/\CrQ (c,laterT (t,(L i.toNat).1),(L i.toNat).2)/\CrQ (c,laterT (t,(L i.toNat).1),(L i.toNat).2)/\
        crA sl Post (laterT (t,(L i.toNat).1)) n i Q (stepF F c (laterT (t,(L i.toNat).1)) (L i.toNat).2))
      (Q (.exit 0) (crE t n i sl d) (crC c)):=by kernel_rfl
theorem AH2(k:Nat)(t n i:Int)(d:Nat->Value)(c:Cra)(Post:Value->Prop):
    crS F D h nn L sl k (crZ Zm) (Bz Zm (TS Zm) (fun v _=>Post v)) (crE t n i sl d) (crC c)=Post (.bool true):=by kernel_rfl
def Azh(k:Nat)(Q:VQ):VQ:=fun e vt m=>match e with
 | .normal=>crS F D h nn L sl k (crZ Zm) Q vt m
 |e=>Q e vt m
def crX(k:Nat)(t:Int)(Q:VQ):Prop:=sl=sl/\65=65/\65=65/\(Ch 3 sl&&true)=true/\∀d,crS F D h nn L sl k (crB Zm) (Azh F D h nn L sl k Q) (crF t nn 0 sl d) (crC zeroCra)
theorem Ar0(k:Nat)(t:Int)(Post:Value->Prop):
    crS F D h nn L sl k (An Zm 3) (Bz Zm (TS Zm) (fun v _=>Post v)) ([.int .i64 t,sl]++Zu ((Ba Zm 3).ntmps-2) undef) [[]]=
      (sl=sl/\65=65/\∀b,(b=true->nn<=30/\ML L 0 nn<=3000)->AE (!b) (Post (.bool true)) (AE (decide (t<0)) (Post (.bool true)) (AE (decide (t>157766400000)) (Post (.bool true)) (crX F D h nn L sl k t (Bz Zm (TS Zm) (fun v _=>Post v)))))):=by kernel_rfl
end
theorem Rl.below{w0:World}{ds:List Deferred}{bl0 bl:Bl}{vt:List Value}{m:Xm}{a:Act}{w:World}(r:Rl [] w0 ds bl0 bl vt m a w):Below w0.heap.size w0 w:=⟨r.R.os,r.R.tape,r.R.output,r.R.size,fun i hi=>r.R.block i hi (by simp)⟩
theorem Ah4{w0:World}{ds:List Deferred}{bl0:Bl}{K:List Value->Xm->Prop}{Q:Exit->Act->World->Prop}{bl:Bl}{vt:List Value}{m:Xm}{a:Act}{w:World}{B:Nat}{ao:Option Addr}{n cap:Nat}{L:Nat->Int×ByteArray}{sl:Value}{ops:Array Oper}{id:Nat}{o0 o1:Oper}{tS:TypeId}{fn:Nat}(hfn:fn=5)(hb0:bl0[0]? =some (some B))(hr:JJ w0 B ao n cap L sl)(hs:sl≠.nilIface)(hn:n<=1000000000000000)(hz:∀i,i<n->(L i).2.size<=1000000000000000)(hnew:ops.all (fun o=>!Cu o)=true)(hsz:List.range ops.size=[0,1,2,3,4,5,6,7,8,9,10])
    (g0:ops[0]? =some o0) (g1:ops[1]? =some o1) (h0:o0.dst=some 16/\o0.op=.move (.tmp 1)/\o0.guard=none) (h1:o1.dst=some 17/\o1.op=.call {callee:=.value (.func fn),args:=#[.tmp 16],argTypes:=#[tS]}/\o1.guard=none)
    (h:crG n L sl ops K vt m) (r:Rl [] w0 ds bl0 bl vt m a w) (hK:∀bl vt m a w,K vt m->Rl [] w0 ds bl0 bl vt m a w->Q .normal a w):(Code.region id ops false).wp Zm Q a w:=by
 subst hfn
 have hlen:=r.F.len
 obtain⟨hp,hlt,hk⟩:=h
 rw[hlt]at hlen
 have E1:=TR hb0 hr hs hp r
 have hrv:=hr.rv bl (r.le 0 B hb0)
 have F:=r.F
 have D:=r.defers
 refine wp_region ?_
 rw[hsz]
 refine As (v:=sl) (v':=(.slice ao n cap)) (w':=w) g0 h0.1 (Am h0.2.2) (by simp[execOp,h0.2.1,E1]) F D hlen (by decide) (hrv) fun a F D hlen E16 X=>?_
 refine Oo (o:=o1) (args:=#[.slice ao n cap]) g1 h1.2.2 ?_ (AHx w r.R.gwAt (hr.same r.below) hs hn hz) ?_
 ·have:=Ae Tryz.func5 (by kernel_rfl) (by kernel_rfl) #[.slice ao n cap] w
  have hf:a.eval (.func 5)=.func (.func 5) #[] #[]:=rfl
  simp[execOp,h1.2.1,resolve,hf,E16,Deferred.ofValue,invoke,this]
 rintro e w' ⟨⟨b,rfl,hb⟩,hbel⟩
 refine⟨_,rfl,?_⟩
 rw[h1.1]
 exact WF hnew (by decide) (hk b hb) ⟨F.put (v:=.bool b) (v':=.bool b) rfl (some 17),r.R.pure hbel,r.le,r.len,(AL a (some 17) (.bool b)).trans D⟩ hK
theorem AMy{F D:Fs}(h:BothOk F D){B:Nat}{ao:Option Addr}{nn cap:Nat}{L:Nat->Int×ByteArray}{sl:Value}{w:World}(hr:JJ w B ao nn cap L sl)(hs:sl≠.nilIface)(hn:nn<=1000000000000000)(hz:∀i,i<nn->(L i).2.size<=1000000000000000):D5 Zm (crO F D h nn L sl) [] w [] [some B] (An Zm 3):=by
 refine CV (ns:=[(3,Cg Zm 3 3,false),(7,#[(opOf Zm 3 7 0),(opOf Zm 3 7 1),(opOf Zm 3 7 2)],false),(9,#[(opOf Zm 3 9 0),(opOf Zm 3 9 1),(opOf Zm 3 9 2),(opOf Zm 3 9 3)],false),(16,Cg Zm 3 16,false)]) (by kernel_rfl) ?_
 intro r hr'
 rcases Zr.1 hr' with rfl |hr'
 ·intro R hR K Q bl vt m a w1 h r hK
  cases hR
  exact Ah4 (o0:=opOf Zm 3 3 0) (o1:=opOf Zm 3 3 1) (tS:=22) (fn:=5) rfl rfl hr hs hn hz (by kernel_rfl) (by kernel_rfl) (by kernel_rfl) (by kernel_rfl) ⟨by kernel_rfl,by kernel_rfl,by kernel_rfl⟩ ⟨by kernel_rfl,by kernel_rfl,by kernel_rfl⟩ h r hK
 rcases Zr.1 hr' with rfl |hr'
 ·intro R hR K Q bl vt m a w1 h r hK
  cases hR
  refine PD (K:=Jl crK 65 3 K) (tS:=22) (tE:=44) (by decide) (by decide) (by decide) rfl hr hs (by kernel_rfl) rfl ⟨by kernel_rfl,by kernel_rfl,by kernel_rfl⟩ ⟨by kernel_rfl,by kernel_rfl,by kernel_rfl⟩ ⟨by kernel_rfl,by kernel_rfl,by kernel_rfl⟩ h r (fun bl vt m a w hk hrl=>?_)
  obtain⟨bl',vt',m',k1,k2⟩:=hrl.cut (show 1<=3 by decide) hk
  exact hK bl' vt' m' a w k1 k2
 rcases Zr.1 hr' with rfl |hr'
 ·intro R hR K Q bl vt m a w1 h r hK
  cases hR
  exact PC (by decide) (by decide) (by decide) (by decide) (B:=B) (tS:=22) (tR:=44) (z:=.agg #[.int .i64 0,.string ⟨#[]⟩]) rfl hr (by kernel_rfl) (by kernel_rfl) (by kernel_rfl) (by kernel_rfl) rfl rfl ⟨by kernel_rfl,by kernel_rfl,by kernel_rfl⟩ ⟨by kernel_rfl,by kernel_rfl,by kernel_rfl⟩ ⟨by kernel_rfl,by kernel_rfl,by kernel_rfl⟩ ⟨by kernel_rfl,by kernel_rfl,by kernel_rfl⟩ h r hK
 rcases Zr.1 hr' with rfl |hr'
 ·intro R hR K Q bl vt m a w1 h r hK
  cases hR
  exact By xmixA (show 1<=3 by decide) h r hK
 ·cases hr'
theorem Azi{F D:Fs}(h:BothOk F D){P:Program}{fn:Func}{nn:Nat}{L:Nat->Int×ByteArray}{sl:Value}{Post:Value->Prop}{G:VQ->List Value->Xm->Prop}(hG:∀(t n i:Int) (d:Nat->Value) (c:Cra) (Q:VQ),G (Iw P fn Post Q) (crF t n i sl d) (crC c)=
      AE (decide (i<n)) ((0<=i/\i.toNat<nn)/\sl=sl/\3=3/\65=65/\CrQ (c,laterT (t,(L i.toNat).1),(L i.toNat).2)/\CrQ (c,laterT (t,(L i.toNat).1),(L i.toNat).2)/\
        crA sl Post (laterT (t,(L i.toNat).1)) n i Q (stepF F c (laterT (t,(L i.toNat).1)) (L i.toNat).2))
      (Q (.exit 0) (crE t n i sl d) (crC c))) (hn:nn<=1000000) (hp:Ch 3 sl=true) (Q:VQ) (hQ:∀t i d c,Q (.exit 0) (crE t nn i sl d) (crC c)) (k:Nat):∀(i:Nat),i+k=nn->∀(t:Int) (d:Nat->Value) (c:Cra),He c->DrI (Ha c)->c.2.2.1.size<=68->ML L i k<=3000->AS (k+1) G (Iw P fn Post Q) (crF t nn i sl d) (crC c):=by
 induction k with
 |zero=>
  intro i e t d c _ _ _ _
  rw[KV,hG,decide_eq_false (by omega)]
  exact hQ _ _ _ _
 | succ k ih=>
  intro i e t d c hi hd hl hz
  have hz:(L i).2.size+ML L (i+1) k<=3000:=hz
  rw[KV,hG,decide_eq_true (by omega),Zw]
  have hw:IntKind.i64.wrap ((i:Int)+1)=((i+1:Nat):Int):=by
   rw[IntKind.wrap_i64]
   omega
  generalize laterT (t,(L i).1)=t'
  have hq:CrQ (c,t',(L i).2):=⟨hi,hd,by show c.2.2.1.size+(L i).2.size<=5000;omega⟩
  refine⟨⟨by omega,by omega⟩,rfl,rfl,rfl,hq,hq,?_⟩
  obtain⟨_,hi',hd',hl'⟩:=Rq h.is h.same h.next hi hd t' (L i).2
  have hl2:(stepF F c t' (L i).2).1.2.2.1.size<=68:=by
   rcases hl' with e |e
   ·exact e
   ·rw[e];exact hl
  unfold crA
  rw[Ah2,beq_self_eq_true]
  refine⟨rfl,by rw[hp];rfl,fun d=>?_⟩
  rw[hw]
  exact ih (i+1) (by omega) t' d _ hi' hd' hl2 (by omega)
theorem PE{F D:Fs}(h:BothOk F D){B:Nat}{ao:Option Addr}{nn cap:Nat}{L:Nat->Int×ByteArray}{sl:Value}(t:Int)(w:World)(hw:GW w)(hr:JJ w B ao nn cap L sl)(hs:sl≠.nilIface)(hn:nn<=1000000000000000)(hz:∀i,i<nn->(L i).2.size<=1000000000000000):
    Calls Zm 3 #[.int .i64 t,.slice ao nn cap] w fun e w'=>e=.returned (.bool true)/\Below w.heap.size w w':=by
 have hp:Ch 3 sl=true:=Arv hr.ok (by decide)
 refine Calls.mono (F8 (tbl:=crT F D h) (dirty:=fun _=>[]) (n:=nn+1) (ov:=crO F D h nn L sl) xmixA (f:=3) (fn:=Ba Zm 3) (c:=An Zm 3) (by kernel_rfl) (by kernel_rfl) (vargs:=[.int .i64 t,sl]) (args:=#[.int .i64 t,.slice ao nn cap]) (Ac9 hw hr) rfl rfl (fun i=>?_) (Post:=fun v _=>v=.bool true) (AMy h hr hs hn hz) ?_) ?_
 ·match i with
  |0=>rfl
  |1=>exact hr.rv [some B] rfl
  |_+2=>rfl
 ·refine Eq.mpr (Ar0 F D h nn L sl (nn+1) t (fun v=>v=.bool true)) ⟨rfl,rfl,fun b hb=>?_⟩
  cases b
  ·rfl
  obtain⟨h30,hrem⟩:=hb rfl
  show AE _ _ _
  by_cases h0:t<0
  ·rw[decide_eq_true h0]
   rfl
  rw[decide_eq_false h0]
  show AE _ _ _
  by_cases h1:t>157766400000
  ·rw[decide_eq_true h1]
   rfl
  rw[decide_eq_false h1]
  refine⟨rfl,rfl,rfl,by rw[hp];rfl,fun d=>?_⟩
  have e:Iw Zm (TS Zm) (fun v=>v=.bool true) (Ah1 0 (Azh F D h nn L sl (nn+1) (Bz Zm (TS Zm) (fun v _=>v=.bool true))))=Ah1 0 (Azh F D h nn L sl (nn+1) (Bz Zm (TS Zm) (fun v _=>v=.bool true))):=by
   funext e vt m
   cases e<;>rfl
  have hl:=Azi h (P:=Zm) (fn:=TS Zm) (nn:=nn) (L:=L) (sl:=sl) (Post:=fun v=>v=.bool true) (fun t n i d c Q=>Arz F D h nn L sl (nn+1) t n i d c (fun v=>v=.bool true) Q) (by omega) hp (Ah1 0 (Azh F D h nn L sl (nn+1) (Bz Zm (TS Zm) (fun v _=>v=.bool true)))) (fun t i d c=>Eq.mpr (AH2 F D h nn L sl (nn+1) t nn i d c (fun v=>v=.bool true)) rfl) nn 0 (by omega) t d zeroCra He.zero (show DrI (Ha zeroCra)from⟨by decide,by decide⟩) (by decide) hrem
  rw[e]at hl
  exact hl
 ·rintro e w' ⟨v,bl',m2,rfl,rfl,R',_⟩
  exact⟨rfl,R'.os,R'.tape,R'.output,R'.size,fun i hi=>R'.block i hi (by simp)⟩
open Go.ChangeShapes Go.WideShapes Go.ChangeAt Go.Joins
theorem Ar1:laidOutB Zm=true:=by kernel_rfl
theorem Ah5:Zm.cellsOf 44=2:=by kernel_rfl
theorem Azj:Zm.cellsOf 9=1:=by kernel_rfl
theorem Azk:Zm.cellsOf 2=1:=by kernel_rfl
section
variable {H:Type} {enc:TypeId×Value->H} {w:World} {base:Nat} {held:Bool}
theorem Ar2{spare:Nat->Bool}{fuel:Nat}{c0 c1:Value}{x:DataW H×List MemPlace}(hf:DataW.trod enc Zm w base spare held fuel 44 [c0,c1]=some x):
    ∃a:Int×ByteArray,c0=.int .i64 a.1/\c1=.string a.2/\x.1=.agg [.lit (.int .i64 a.1),.lit (.string a.2.data.toList)]:=by
 obtain⟨y0,y1,n,hx,_,h0,h1⟩:=trod_struct2 Tryz.underlying44 hf
 obtain⟨x0,e0,rfl,_⟩:=DataW.trod_int Tryz.underlying2 h0
 obtain⟨x1,e1,rfl,w1⟩:=DataW.trod_string Tryz.underlying9 h1
 simp only[Azk,List.drop_zero,List.take_succ_cons,List.take_zero,List.cons.injEq,and_true]at e0
 simp only[Azj,List.drop_succ_cons,List.drop_zero,List.take_succ_cons,List.take_zero,List.cons.injEq,and_true]at e1
 exact⟨(x0,x1),e0,e1,by rw[hx]⟩
theorem Rr{e:TypeId}{d:DataW H}{n:Nat}(hn:n∈d.weights Zm e):∀l:List (DataW H),d∈l->n∈DataW.weightsAll Zm e l
 |[],h=>by cases h
 |x::l,h=>by
  unfold DataW.weightsAll
  rcases Zr.1 h with rfl |h
  ·exact List.mem_append_left _ hn
  ·exact List.mem_append_right _ (Rr hn l h)
theorem ZY(a:Int×ByteArray):a.2.data.toList.length∈DataW.weights Zm 44 (.agg [.lit (.int .i64 a.1),.lit (.string a.2.data.toList)]:DataW H):=by
 have e:DataW.weights Zm 44 (.agg [.lit (.int .i64 a.1),.lit (.string a.2.data.toList)]:DataW H)=[a.2.data.toList.length]:=by kernel_rfl
 rw[e]
 exact List.mem_singleton_self _
theorem Ah6:1<=Zm.bytesOf 44:=by
 have e:Zm.bytesOf 44=24:=by kernel_rfl
 omega
theorem Ah7{fuel:Nat}{cs:List Value}{x:DataW H×List MemPlace}(hG:0<w.heap.size)(h:DataW.trod enc Zm w base (fun _=>true) held fuel 22 cs=some x):
    ∃(B:Nat) (ao:Option Addr) (nn cap:Nat) (L:Nat->Int×ByteArray) (sl:Value),cs=[.slice ao nn cap]/\JJ w B ao nn cap L sl/\((DataW.weights Zm 22 x.1).all (·<=reachBytes)=true->nn<=reachBytes/\∀i,i<nn->(L i).2.size<=reachBytes):=by
 rcases Go.Deep.open_slice Tryz.underlying22 h with⟨h0,_⟩|⟨a,len,cap,m,n,D,Pl,rfl,hb,hl,hm,hmm,rfl,hx⟩
 ·exact⟨0,none,0,0,fun _=>(0,⟨#[]⟩),.slice none 0 0,h0,⟨fun _ _=>rfl,rfl,hG,fun h=>absurd h (Zn _),fun i h=>absurd h (Zn i)⟩,fun _=>⟨Nat.zero_le _,fun i h=>absurd h (Zn i)⟩⟩
 ·rw[if_pos rfl]at hmm
  have each:∀i,i<len->∃v:Int×ByteArray,w.cell? (a.add (i*2))=some (.int .i64 v.1)/\w.cell? (a.add (i*2+1))=some (.string v.2)/\D i=.agg [.lit (.int .i64 v.1),.lit (.string v.2.data.toList)]:=by
   intro i hi
   obtain⟨cs',h1,h2⟩:=hx i (by omega)
   rw[Ah5]at h1
   obtain⟨_,hlen,hcell⟩:=World.cells?_some h1
   match cs',hlen with
   |[c0,c1],_=>
    obtain⟨v,rfl,rfl,hv⟩:=Ar2 h2
    have g0:=hcell 0 (by omega)
    have g1:=hcell 1 (by omega)
    rw[Go.Deep.add_add]at g0 g1
    exact⟨v,g0,g1,hv⟩
  have inh:Inhabited (Int×ByteArray):=⟨(0,⟨#[]⟩)⟩
  obtain⟨L,hL⟩:=Go.Deep.choose_lt each
  by_cases h0:len=0
  ·subst h0
   exact⟨0,some a,0,cap,L,.nilIface,rfl,⟨fun _ _=>rfl,rfl,hG,fun h=>absurd h (Zn _),fun i h=>absurd h (Zn i)⟩,fun _=>⟨Nat.zero_le _,fun i h=>absurd h (Zn i)⟩⟩
  ·obtain⟨B,o,sp⟩:=a
   have s0:=(hL 0 (by omega)).1
   obtain rfl:sp=none:=by simpa [Addr.add]using World.cell?_spot s0
   have hB:B<w.heap.size:=by simpa [Addr.add]using World.block_lt_of_cell? _ _ s0
   simp only[FH]at hL
   refine⟨B,some ⟨B,o,none⟩,len,cap,L,.slice (some ⟨0,o,none⟩) len cap,rfl,⟨fun bl hbl=>⟨B,hbl,rfl⟩,rfl,hB,(fun _ h=>by cases h),fun i hi=>⟨o,rfl,(hL i hi).1,(hL i hi).2.1⟩⟩,fun hw=>?_⟩
   have hw:(DataW.weights Zm 22 (.slice ((List.range len).map D) ((List.range (m-len)).map fun j=>D (len+j)))).all (·<=reachBytes)=true:=hw
   unfold DataW.weights at hw
   rw[Tryz.underlying22]at hw
   simp only[Zy,decide_eq_true_eq]at hw
   refine⟨?_,fun i hi=>?_⟩
   ·have h1:=hw _ List.mem_cons_self
    rw[List.length_map,List.length_range]at h1
    have h2:len*1<=(len+((List.range (m-len)).map fun j=>D (len+j)).length)*Zm.bytesOf 44:=Nat.mul_le_mul (Nat.le_add_right _ _) Ah6
    omega
   ·have h1:=ZY (H:=H) (L i)
    rw[<-(hL i hi).2.2]at h1
    exact hw _ (List.mem_cons_of_mem _ (List.mem_append_left _ (Rr h1 _ (List.mem_map.2 ⟨i,List.mem_range.2 hi,rfl⟩))))
end
end
section
open Go.ChangeShapes Go.WideShapes Go.ChangeAt Go.RowKit
section
variable {H:Type} {enc:TypeId×Value->H} {w:World} {base:Nat} {held:Bool}
theorem Ar3{b:Nat}{x:TypeId×Nat}(h:w.shape? b=some x):b<w.heap.size:=by
 by_cases c:b<w.heap.size
 ·exact c
 ·have e:w.heap[b]? =none:=Array.getElem?_eq_none (by omega)
  unfold World.shape? at h
  rw[e]at h
  cases h
theorem ZZ{r:Reach}{b0:Nat}{v:Value}{d:DataW H}{ps:List MemPlace}(hG:0<w.heap.size)(hval:Value.okWide Zm w r b0 22 v)(hd:DataW.Trod enc Zm w base (fun _=>true) held 22 v d ps):
    ∃(B:Nat) (ao:Option Addr) (nn cap:Nat) (L:Nat->Int×ByteArray) (sl:Value),v=.slice ao nn cap/\JJ w B ao nn cap L sl/\sl≠.nilIface/\((DataW.weights Zm 22 d).all (·<=reachBytes)=true->nn<=reachBytes/\∀i,i<nn->(L i).2.size<=reachBytes):=by
 obtain⟨fuel,h⟩:=hd
 obtain⟨B,ao,nn,cap,L,sl,e,hr,hw⟩:=Ah7 hG h
 have hval:Cell.okWide Zm w r b0 22 v:=by
  unfold Value.okWide at hval
  rw[Tryz.underlying22]at hval
  exact hval
 unfold Cell.okWide at hval
 rw[Tryz.underlying22]at hval
 have hval:Cell.ok Zm w r b0 22 v:=by
  split at hval<;>first |exact hval |(rename_i h1 _;cases h1)
 unfold Cell.ok at hval
 rw[Tryz.underlying22]at hval
 have hv:v=.slice ao nn cap:=by
  cases v with
  |slice a n c=>
   have e:[Value.slice a n c]=[.slice ao nn cap]:=e
   exact(List.cons.inj e).1
  |_=>exact hval.elim
 subst hv
 by_cases hs:sl=.nilIface
 ·have h0:nn=0:=by
   by_cases c:nn=0
   ·exact c
   ·exact absurd hs (hr.idx (i:=0) (by omega))
  subst h0
  cases ao with
  |none=>exact⟨B,none,0,cap,L,.slice none 0 cap,rfl,⟨fun _ _=>rfl,rfl,hr.lies,fun h=>absurd h (Zn _),fun i h=>absurd h (Zn i)⟩,(fun k=>by cases k),hw⟩
  |some a=>
   obtain⟨_,_,_,hsp,row,cells,hsh,_⟩:=hval
   obtain⟨b,o,sp⟩:=a
   dsimp only at hsp hsh
   subst hsp
   exact⟨b,some ⟨b,o,none⟩,0,cap,L,.slice (some ⟨0,o,none⟩) 0 cap,rfl,⟨fun bl hbl=>⟨b,hbl,rfl⟩,rfl,Ar3 hsh,fun h=>absurd h (Zn _),fun i h=>absurd h (Zn i)⟩,(fun k=>by cases k),hw⟩
 ·exact⟨B,ao,nn,cap,L,sl,rfl,hr,hs,hw⟩
end
def WG:List (String×DataW Unit):=[("alidade/field.atZero",Rows.laid_alidade_field_atZero),("alidade/field.inYear",Rows.laid_alidade_field_inYear)]
theorem gAt:Zm.globalNamed "alidade/field.atZero" =some 0:=by kernel_rfl
theorem gYr:Zm.globalNamed "alidade/field.inYear" =some 1:=by kernel_rfl
theorem tAt:(Zm.globals[0]?).map (·.type)=some 309:=by kernel_rfl
theorem tYr:(Zm.globals[1]?).map (·.type)=some 310:=by kernel_rfl
theorem AH3:Zm.cellsOf 2=1:=by kernel_rfl
theorem ABu:Zm.cellsOf 308=2:=by kernel_rfl
theorem Azl:Zm.cellsOf 309=54:=by kernel_rfl
theorem Azm:Zm.cellsOf 310=10:=by kernel_rfl
def Mg(zs:List (Int×Int)):List (DataW Unit):=zs.map fun z=>Lib.tabData .i64 [z.1,z.2]
theorem Azn{w:World}{fuel:Nat}{cs:List Value}{z:Int×Int}{p:List MemPlace}(h:DataW.trod (fun _=>()) Zm w 0 (fun _=>true) false fuel 308 cs=some (Lib.tabData .i64 [z.1,z.2],p)):cs=[.int .i64 z.1,.int .i64 z.2]:=
 Lib.cells_of_tab Tryz.underlying308 Tryz.underlying2 AH3 ABu h
theorem Rs{w:World}{fuel n:Nat}{t:TypeId}{cs:List Value}{zs:List (Int×Int)}{p:List MemPlace}(ht:Zm.underlying t=some (.array n 308))(hc:Zm.cellsOf t=2*n)
    (h:DataW.trod (fun _=>()) Zm w 0 (fun _=>true) false fuel t cs=some (.agg (Mg zs),p)):cs.length=2*n/\∀i,i<n->cs[2*i]? =some (.int .i64 (zs.getD i (0,0)).1)/\cs[2*i+1]? =some (.int .i64 (zs.getD i (0,0)).2):=by
 obtain⟨xs,m,rfl,hx,hl,hn,hel⟩:=DataW.trod_array ht h
 refine⟨by rw[hl,hc],fun i hi=>?_⟩
 simp only[Prod.mk.injEq,DataW.agg.injEq]at hx
 have hz:zs.length=n:=by
  have:=congrArg List.length hx.1
  unfold Mg at this
  simp at this
  omega
 have h1:=hel i hi
 have hxi:i<xs.length:=by omega
 have e1:xs[i]? =some xs[i]:=List.getElem?_eq_getElem hxi
 have e2:xs[i].1=Lib.tabData .i64 [(zs.getD i (0,0)).1,(zs.getD i (0,0)).2]:=by
  have a:(Mg zs)[i]? =(xs.map (·.1))[i]? :=by rw[hx.1]
  unfold Mg at a
  rw[List.getElem?_map,List.getElem?_map,e1]at a
  have b:zs[i]? =some (zs.getD i (0,0)):=by rw[List.getD_eq_getElem?_getD,List.getElem?_eq_getElem (by omega)];rfl
  rw[b]at a
  simp only[Option.map_some,Option.some.injEq]at a
  exact a.symm
 rw[e1,ABu]at h1
 have h2:=Azn (z:=zs.getD i (0,0)) (p:=xs[i].2) (h1.trans (by rw[<-e2]))
 have g0:((cs.drop (i*2)).take 2)[0]? =some (.int .i64 (zs.getD i (0,0)).1):=by rw[h2];rfl
 have g1:((cs.drop (i*2)).take 2)[1]? =some (.int .i64 (zs.getD i (0,0)).2):=by rw[h2];rfl
 rw[List.getElem?_take_of_lt (by decide),List.getElem?_drop]at g0 g1
 rw[show i*2+0=2*i by omega]at g0
 rw[show i*2+1=2*i+1 by omega]at g1
 exact⟨g0,g1⟩
def atP:List (Int×Int):=[(-293500,0),(-14103,45455),(-25562,0),(29509,-31336),(16487,-8142),(13609,0),(-24042,-569),(12438,2376),(4534,-5496),(8947,0),(7996,2786),(558,-1340),(-2811,2120),(120,-3754),(-2329,0),(3690,453),(1872,2200),(-1387,-1229),(-1419,429),(209,1062),(643,0),(638,-184),(767,168),(-1157,489),(-409,-598),(149,109),(-608,728)]
def yrP:List (Int×Int):=[(126,0),(100,-215),(-112,0),(-53,-273),(-83,-111)]
theorem AH4(i:Nat)(h:i<27):(atP.getD i (0,0)).1=Eu (2*i)/\(atP.getD i (0,0)).2=Eu (2*i+1):=by
 have a:((List.range 27).all fun i=>decide ((atP.getD i (0,0)).1=Eu (2*i)/\(atP.getD i (0,0)).2=Eu (2*i+1)))=true:=by decide+kernel
 exact of_decide_eq_true (Zy.1 a i (List.mem_range.2 h))
theorem AH5(i:Nat)(h:i<5):(yrP.getD i (0,0)).1=Gk (2*i)/\(yrP.getD i (0,0)).2=Gk (2*i+1):=by
 have a:((List.range 5).all fun i=>decide ((yrP.getD i (0,0)).1=Gk (2*i)/\(yrP.getD i (0,0)).2=Gk (2*i+1)))=true:=by decide+kernel
 exact of_decide_eq_true (Zy.1 a i (List.mem_range.2 h))
theorem Ar4{W:World}{name:String}{g n:Nat}{cs:Array Value}{zs:List (Int×Int)}{f:Nat->Int}{ps:List MemPlace}(hg:Zm.globalNamed name=some g)(hv:W.var? Zm name=some cs)(hl:cs.toList.length=2*n)
    (hc:∀i,i<n->cs.toList[2*i]? =some (.int .i64 (zs.getD i (0,0)).1)/\cs.toList[2*i+1]? =some (.int .i64 (zs.getD i (0,0)).2)) (hf:∀i,i<n->(zs.getD i (0,0)).1=f (2*i)/\(zs.getD i (0,0)).2=f (2*i+1))
    (hp:∀i,i<cs.size->MemPlace.cell g i∈ps) (hfz:∀b off,MemPlace.cell b off∈ps->(∃c t,W.heap[b]? =some (.cells c t (0,0)))/\∀u v,W.cell? ⟨b,off,none⟩=some (.iface u v)->Value.okWide Zm W .any 0 u v) (n0:0<n):AN g (row (2*n) f) W:=by
 have hsz:cs.size=2*n:=by simpa using hl
 obtain⟨⟨c,t,hb⟩,_⟩:=hfz g 0 (hp 0 (by omega))
 refine⟨fun i hi=>?_,fun i _=>?_,(Array.getElem?_eq_some_iff.1 hb).1⟩
 ·have hi':i<2*n:=by rw[Bi]at hi;exact hi
  rw[Iz,World.var?_cell hg hv i,<-Array.getElem?_toList]
  obtain⟨h0,h1⟩:=hc (i / 2) (by omega)
  obtain⟨f0,f1⟩:=hf (i / 2) (by omega)
  by_cases e:i % 2=0
  ·rw[show 2*(i / 2)=i by omega]at h0 f0
   rw[h0,f0]
  ·rw[show 2*(i / 2)+1=i by omega]at h1 f1
   rw[h1,f1]
 ·unfold World.frozen?
  show(match W.heap[g]? with |some (.cells _ _ (lo,hi))=>decide (lo<=i)&&decide (i<hi)|_=>false)=false
  rw[hb]
  simp
theorem Azo{W:World}(h:laidMetH Zm WG W):AN 0 (row 54 Eu) W/\AN 1 (row 10 Gk) W:=by
 rw[MakeChecks.laidMetH_plain _ _ _ (by kernel_rfl)]at h
 obtain⟨ps,⟨g0,t0,cs0,f0,p0,q0,hg0,ht0,hv0,hd0,⟨g1,t1,cs1,f1,p1,q1,hg1,ht1,hv1,hd1,_,e1⟩,e0⟩,_,hfz⟩:=h
 obtain rfl:=Option.some.inj (gAt.symm.trans hg0)
 obtain rfl:=Option.some.inj (gYr.symm.trans hg1)
 obtain rfl:=Option.some.inj (tAt.symm.trans ht0)
 obtain rfl:=Option.some.inj (tYr.symm.trans ht1)
 obtain⟨l0,c0⟩:=Rs (n:=27) (zs:=atP) Tryz.underlying309 Azl (show DataW.trod _ Zm W 0 _ false f0 309 cs0.toList=some (.agg (Mg atP),p0)from hd0)
 obtain⟨l1,c1⟩:=Rs (n:=5) (zs:=yrP) Tryz.underlying310 Azm (show DataW.trod _ Zm W 0 _ false f1 310 cs1.toList=some (.agg (Mg yrP),p1)from hd1)
 have m0:∀i,i<cs0.size->MemPlace.cell 0 i∈ps:=fun i hi=>by rw[e0];simp[MemPlace.row,hi]
 have m1:∀i,i<cs1.size->MemPlace.cell 1 i∈ps:=fun i hi=>by rw[e0,e1];simp[MemPlace.row,hi]
 exact⟨Ar4 (n:=27) gAt hv0 l0 c0 AH4 m0 hfz (by decide),Ar4 (n:=5) gYr hv1 l1 c1 AH5 m1 hfz (by decide)⟩
theorem Ar5(os:Os)(args:Array Value):laidMetH Zm WG ((World.doorLaid Zm 51 os).forCall (fun _ _=>0) ⟨#[],args,[]⟩).memory:=
 laidMetH_of_parts3 (fuel:=8) (laidMet_of_run' 8 (by kernel_rfl) (by kernel_rfl)) (by kernel_rfl) (by kernel_rfl)
end
end Go.Proofs.YtoadcnhcfodkgaaGreatDoor
