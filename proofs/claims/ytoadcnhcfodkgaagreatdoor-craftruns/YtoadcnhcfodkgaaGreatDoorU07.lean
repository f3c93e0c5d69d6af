import Derived.Laws.ResultCell
import Derived.RegionTactic
import Derived.BigRegion
import Derived.Lib.IndexBytes
import Derived.Test.YtoadcnhcfodkgaaGreatDoorU06
import Derived.Test.YtoadcnhcfodkgaaGreatDoorU05
import Derived.Test.YtoadcnhcfodkgaaGreatDoorU02
set_option maxHeartbeats 4000000
set_option maxRecDepth 100000
open Go.Proofs.Tryz renaming prog→Zm
open List renaming getD_eq_getElem?_getD→Zn,length_append→Zo,replicate→Zq,getElem?_eq_some_iff→Zs,mem_cons→Zt,getElem?_map→Zu,drop_drop→Zw
open Classical renaming choose_spec→Zp
open Nat renaming le_refl→Zr,lt_succ_self→Zx
open ByteArray renaming size_extract→Zv
open Option renaming map_some→Zy
namespace Go.Proofs.YtoadcnhcfodkgaaGreatDoor
section
open Go.RowKit
theorem Oq{w w1:World}{A B:Array Value}{t u:TypeId}(h:Below ((w.alloc (.cells A t)).alloc (.cells B u)).drew.heap.size ((w.alloc (.cells A t)).alloc (.cells B u)).drew w1):
    Below (w.alloc (.cells A t)).heap.size (w.alloc (.cells A t)) w1/\∀j,w1.cell? ⟨w.heap.size+1,j,none⟩=B[j]? :=by
 have h':Below ((w.alloc (.cells A t)).alloc (.cells B u)).heap.size ((w.alloc (.cells A t)).alloc (.cells B u)) w1:=⟨h.os,h.tape,h.output,h.size,h.block⟩
 refine⟨((Below.refl _ _).alloc (Zr _) _).trans (h'.mono (by simp)),fun j=>?_⟩
 rw[h'.cell (p:=⟨w.heap.size+1,j,none⟩) (by simp)]
 exact H9 _ _ _ _ j (by simp)
theorem ADq{s t:ByteArray}(h:t.data.toList≠s.data.toList):(t.toList==s.toList)=false:=by
 rw[Lib.toList_data,Lib.toList_data]
 simpa using h
def EZ(s:ByteArray):Int×ByteArray×Bool:=
 if 5<=s.size/\s.size<=69/\CH (s.data.toList.getD 1 0) (s.extract 3 (s.size-2)).data.toList=s.data.toList then(((s.data.toList.getD 1 0).toNat:Int),s.extract 3 (s.size-2),true)else(0,⟨#[]⟩,false)
theorem XQ{t:List UInt8}{x d:ByteArray}{k n:Nat}(h:look t=some (n+1))(hx:x.data.toList=t.take (n+5))(hd:d.data.toList=(t.drop 3).take n)(hk:(t.getD 1 0).toNat=k):EZ x=((k:Int),d,true):=by
 obtain⟨_,_,h64,h5,_⟩:=Ol h
 have hs:x.size=n+5:=by
  rw[Lib.size_eq,hx,List.length_take]
  omega
 have e1:x.data.toList.getD 1 0=t.getD 1 0:=by
  rw[hx]
  simp[Zn]
 have e2:(x.extract 3 (x.size-2)).data.toList=(t.drop 3).take n:=by
  rw[CU,hx,List.drop_take,List.take_take,hs]
  congr 1
  omega
 unfold EZ
 rw[if_pos ⟨by omega,by omega,by rw[e1,e2,hx,Aex h]⟩,e1,hk]
 have e3:x.extract 3 (x.size-2)=d:=ByteArray.ext (Array.toList_inj.1 (by rw[e2,hd]))
 rw[e3]
theorem Ae0{t:List UInt8}{x:ByteArray}{n:Nat}(h:look t=some 0)(hx:x.data.toList=t.take (n+5))(h5:n+5<=t.length):EZ x=(0,⟨#[]⟩,false):=by
 have hs:x.size=n+5:=by
  rw[Lib.size_eq,hx,List.length_take]
  omega
 unfold EZ
 rw[if_neg]
 rintro⟨_,h69,hw⟩
 have e:t=CH (x.data.toList.getD 1 0) (x.extract 3 (x.size-2)).data.toList++t.drop (n+5):=by rw[hw,hx,List.take_append_drop]
 have hl:=Aew (x.data.toList.getD 1 0) (x.extract 3 (x.size-2)).data.toList (t.drop (n+5)) (by rw[<-Lib.size_eq,Zv];omega)
 rw[<-e,h]at hl
 cases hl
theorem Ae1(s:ByteArray)(w:World)(hmax:s.size<=5000):
    Calls Zm 174 #[.string s] w fun e w'=>e=.returned (.tuple #[.agg #[.int .i64 (EZ s).1,.string (EZ s).2.1],.bool (EZ s).2.2])/\Below w.heap.size w w':=by
 by_cases h5:s.size<5
 ·have e:EZ s=(0,⟨#[]⟩,false):=by unfold EZ;rw[if_neg (by omega)]
  rw[e]
  go_enter Tryz.func174,Tryz.ntmps174
  go_wp2
  refine bodyPost_ret (v:=.tuple #[.agg #[.int .i64 0,.string ⟨#[]⟩],.bool false]) (by simp[results_cell_tmp Tryz.results174,asAddr,go_sem]) rfl ⟨rfl,?_⟩
  exact(Below.refl _ w).alloc (Zr _) _
 have l1:1<s.size:=by omega
 obtain⟨k,hk⟩:∃k,(s[1]'l1)=k:=⟨_,rfl⟩
 have hsl:∀W:World,(Instr.slice 9 (.string s) (some (.int .i64 3)) (some (.int .i64 ((s.size:Int)-2))) none).run Zm W=.ok (.string (s.extract 3 (s.size-2))) W:=fun W=>by
  rw[run_slice_string W 9 s .i64 .i64 3 ((s.size:Int)-2) Tryz.underlying9 (by omega) (by omega) (by omega),show((s.size:Int)-2).toNat=s.size-2 by omega]
  rfl
 obtain⟨d,hd⟩:∃d:ByteArray,d=s.extract 3 (s.size-2):=⟨_,rfl⟩
 rw[<-hd]at hsl
 have hds:d.size=s.size-5:=by rw[hd,Zv];omega
 have HD:Hid (d=s.extract 3 (s.size-2)):=hd
 have hw2:IntKind.i64.wrap ((s.size:Int)-2)=(s.size:Int)-2:=by rw[IntKind.wrap_i64];omega
 obtain⟨n,hn⟩:∃n,k.toNat=n:=⟨_,rfl⟩
 have hk8:n<256:=by rw[<-hn];exact k.toNat_lt
 have hv:IntKind.i64.wrap (n:Int)=(n:Int):=by rw[IntKind.wrap_i64];omega
 have HO:Hid (EZ s=if s.size<=69/\CH k d.data.toList=s.data.toList then((n:Int),d,true)else(0,⟨#[]⟩,false)):=by
  show _=_
  unfold EZ
  rw[FB l1,hk,<-hd,hn]
  by_cases c:s.size<=69/\CH k d.data.toList=s.data.toList
  ·rw[if_pos c,if_pos ⟨by omega,c⟩]
  ·rw[if_neg c,if_neg (fun h=>c h.2)]
 clear hd
 by_cases h69:s.size<=69
 ·have hw:=fun W=>QR k d W (by omega)
  rw[hn]at hw
  by_cases c:CH k d.data.toList=s.data.toList
  ·rw[HO.out,if_pos ⟨h69,c⟩]
   have HC:Hid (CH k d.data.toList=s.data.toList):=c
   clear c
   go_enter Tryz.func174,Tryz.ntmps174
   go_wp2
   go_region
   go_wp2_with (go_at_call 35;refine(hw _).mono ?_;rintro e w1 ⟨t,rfl,ht,hb1⟩;obtain rfl:t=s:=ByteArray.ext (Array.toList_inj.1 (ht.trans HC.out));obtain⟨hb2,kc⟩:=Oq hb1;have k0:=Js hb2;have k1:=Jt hb2;have f0:=Ju hb2;have f1:=Jv hb2;have k2:w1.cell? ⟨w.heap.size+1,0,none⟩=some (.int .i64 (n:Int)):=kc 0;have k3:w1.cell? ⟨w.heap.size+1,1,none⟩=some (.string d):=kc 1;clear kc ht)
   refine bodyPost_ret (v:=.tuple #[.agg #[.int .i64 (n:Int),.string d],.bool true]) (by simp[results_cell_tmp Tryz.results174,asAddr,go_sem,k0,k1]) rfl ⟨rfl,?_⟩
   exact((Jw hb2).setCell (Zr _) _).setCell (Zr _) _
  ·rw[HO.out,if_neg (fun h=>c h.2)]
   have HC:Hid (CH k d.data.toList≠s.data.toList):=c
   clear c
   go_enter Tryz.func174,Tryz.ntmps174
   go_wp2
   go_region
   go_wp2_with (go_at_call 35;refine(hw _).mono ?_;rintro e w1 ⟨t,rfl,ht,hb1⟩;have hne:=ADq (t:=t) (s:=s) (by rw[ht];exact HC.out);obtain⟨hb2,kc⟩:=Oq hb1;have k0:=Js hb2;have k1:=Jt hb2;have f0:=Ju hb2;have f1:=Jv hb2;clear kc ht)
   refine bodyPost_ret (v:=.tuple #[.agg #[.int .i64 0,.string ⟨#[]⟩],.bool false]) (by simp[results_cell_tmp Tryz.results174,asAddr,go_sem,k0,k1]) rfl ⟨rfl,?_⟩
   exact((Jw hb2).setCell (Zr _) _).setCell (Zr _) _
 ·rw[HO.out,if_neg (fun h=>h69 h.1)]
  have hw:=fun W=>Vu n d W (by omega)
  go_enter Tryz.func174,Tryz.ntmps174
  go_wp2
  go_region
  go_wp2_with (go_at_call 35;refine(hw _).mono ?_;rintro e w1 ⟨rfl,hb1⟩;obtain⟨hb2,kc⟩:=Oq hb1;have k0:=Js hb2;have k1:=Jt hb2;have f0:=Ju hb2;have f1:=Jv hb2;clear kc)
  refine bodyPost_ret (v:=.tuple #[.agg #[.int .i64 0,.string ⟨#[]⟩],.bool false]) (by simp[results_cell_tmp Tryz.results174,asAddr,go_sem,k0,k1]) rfl ⟨rfl,?_⟩
  exact((Jw hb2).setCell (Zr _) _).setCell (Zr _) _
theorem Ae2(s:ByteArray)(w:World)(hs:s.size<=5000):
    Calls Zm 59 #[.string s] w fun e w'=>Aas s.data.toList w e w':=by
 obtain⟨i0,hi,hz0,hz1,hz2⟩:=info_parts Om
 obtain⟨L,hLe⟩:∃L,s.data.toList=L:=⟨_,rfl⟩
 have hL:L.length=s.size:=by rw[<-hLe];rfl
 rw[hLe]
 have HS:Hid (s.data.toList=L):=hLe
 clear hLe
 go_enter Tryz.func59,Tryz.ntmps59
 go_wp2
 go_loopw [5,6,7] (fun v ov iv wr=>∃(i:Nat) (acc:List (UInt8×List UInt8)) (o:Nat),i<=s.size/\iv=.int .i64 i/\ov=.int .i64 o/\C4 L acc (L.drop i) o/\Ev w.heap.size wr v acc/\Below w.heap.size w wr)
  (fun _ _ iv _=>s.size-(intOf iv).toNat)
 case atStart=>exact⟨0,[],0,by omega,rfl,rfl,C4.start L,World.ownsRow_nil _ _ _ _,Below.refl _ _⟩
 case round=>
  obtain⟨i,acc,o,his,rfl,rfl,hf,hown,hnx⟩:=hrel
  have hbd:=hf.2
  have hdl:(L.drop i).length=s.size-i:=by rw[List.length_drop,hL]
  have HF:Hid (C4 L acc (L.drop i) o):=hf
  have HO:Hid (Ev w.heap.size wr u5 acc):=hown
  clear hf hown
  by_cases hlt:i<s.size
  case neg=>
   obtain rfl:i=s.size:=by omega
   have HE:Hid (scanL L=(acc,[],o)):=by
    have:=HF.out.stop (t:=L.drop s.size) (by rw[List.drop_of_length_le (by omega)];exact Vn)
    rwa [List.drop_of_length_le (by omega)]at this
   go_wp2
   go_ret3
   exact⟨_,⟨#[]⟩,by rw[HE.out];rfl,by rw[HE.out],by rw[HE.out];exact HO.out,hnx⟩
  obtain⟨b0,hb0⟩:∃b,(s[i]'hlt).toNat=b:=⟨_,rfl⟩
  have G0:Hid (((L.drop i).getD 0 0).toNat=b0):=by
   show _=_
   rw[<-hb0,<-FB hlt,HS.out]
   simp[Zn]
  by_cases c0:b0=165
  case neg=>
   have HE:Hid (C4 L acc (L.drop (i+1)) (o+1)):=by
    have:=HF.out.skip (AAq (by omega) (by rw[G0.out];exact c0))
    rwa [Zw]at this
   have c0':((b0:Int) != 165)=true:=by simp;omega
   go_wp2
   go_roundw
   case rel=>exact⟨i+1,acc,o+1,by omega,by go_num,by go_num,HE.out,HO.out,hnx⟩
   case measure=>simp[intOf];omega
  rw[c0]at G0 hb0
  clear c0 b0
  have hsl:∀W:World,(Instr.slice 9 (.string s) (some (.int .i64 (i:Int))) none none).run Zm W=.ok (.string (s.extract i s.size)) W:=fun W=>by
   rw[run_slice_string_from_if W 9 s .i64 (i:Int) Tryz.underlying9,if_pos (by omega)]
   rfl
  obtain⟨z,hz⟩:∃z:ByteArray,z=s.extract i s.size:=⟨_,rfl⟩
  rw[<-hz]at hsl
  have HZ:Hid (z.data.toList=L.drop i):=by show _=_;rw[hz,<-HS.out];exact Lib.extract_to_end s i
  clear hz
  have c165:((165:Int) != 165)=false:=rfl
  by_cases h3:s.size-i<3
  case pos=>
   have HE:Hid (scanL L=(acc,L.drop i,o)):=HF.out.stop (AAr (by omega) G0.out (by omega))
   go_wp2
   go_quiet (fail)
   go_wp2
   go_ret3
   exact⟨_,z,by rw[HE.out];rfl,by rw[HE.out];exact HZ.out,by rw[HE.out];exact HO.out.below FC,below_drewN hnx _⟩
  have l2:i+2<s.size:=by omega
  obtain⟨n,hn⟩:∃b,(s[i+2]'l2).toNat=b:=⟨_,rfl⟩
  have hn8:n<256:=by rw[<-hn];exact(s[i+2]'l2).toNat_lt
  have G2:Hid (((L.drop i).getD 2 0).toNat=n):=by
   show _=_
   rw[<-hn,<-FB l2,HS.out]
   simp[Zn]
  have hi2:∀W:World,(Instr.index 9 (.string s) (.int .i64 ((i:Int)+2))).run Zm W=.ok (.int .u8 (n:Nat)) W:=fun W=>by
   rw[run_index_string W 9 s .i64 ((i:Int)+2) Tryz.underlying9,dif_pos (by omega)]
   have:((i:Int)+2).toNat=i+2:=by omega
   simp only[this,hn]
  clear hn
  by_cases h64:64<n
  case pos=>
   have HE:Hid (C4 L acc (L.drop (i+1)) (o+1)):=by
    have:=HF.out.skip (AAs G0.out (by omega) G2.out h64)
    rwa [Zw]at this
   go_wp2
   go_roundw
   case rel=>exact⟨i+1,acc,o+1,by omega,by go_num,by go_num,HE.out,HO.out,hnx⟩
   case measure=>simp[intOf];omega
  by_cases h5:s.size-i<n+5
  case pos=>
   have HE:Hid (scanL L=(acc,L.drop i,o)):=HF.out.stop (AAt G0.out (by omega) G2.out (by omega) (by omega))
   go_wp2
   go_quiet (fail)
   go_wp2
   go_ret3
   exact⟨_,z,by rw[HE.out];rfl,by rw[HE.out];exact HZ.out,by rw[HE.out];exact HO.out.below FC,below_drewN hnx _⟩
  have hsx:∀W:World,(Instr.slice 9 (.string s) (some (.int .i64 (i:Int))) (some (.int .i64 ((i:Int)+(n:Int)+5))) none).run Zm W=.ok (.string (s.extract i (i+n+5))) W:=fun W=>by
   rw[run_slice_string W 9 s .i64 .i64 (i:Int) ((i:Int)+(n:Int)+5) Tryz.underlying9 (by omega) (by omega) (by omega),show((i:Int)+(n:Int)+5).toNat=i+n+5 by omega]
   rfl
  obtain⟨x,hx⟩:∃z:ByteArray,z=s.extract i (i+n+5):=⟨_,rfl⟩
  rw[<-hx]at hsx
  have HX:Hid (x.data.toList=(L.drop i).take (n+5)):=by show _=_;rw[hx,CU,HS.out];congr 1;omega
  have hxs:x.size=n+5:=by rw[hx,Zv];omega
  clear hx
  have hop:=fun W=>Ae1 x W (by omega)
  by_cases hq:FK (((L.drop i).drop 1).take (n+2))=((L.drop i).getD (n+3) 0).toNat*256+((L.drop i).getD (n+4) 0).toNat
  case neg=>
   have hlo:=AAu G0.out G2.out (by omega) (by omega) hq
   have HE:Hid (C4 L acc (L.drop (i+1)) (o+1)):=by
    have:=HF.out.skip hlo
    rwa [Zw]at this
   rw[Ae0 hlo HX.out (by omega)]at hop
   clear hlo hq
   go_wp2_with (go_at_call 174;refine(hop _).mono ?_;rintro e w1 ⟨rfl,hb1⟩)
   have hbw:=(hnx.trans (hb1.mono hnx.size)).alloc (Nat.le_trans hnx.size hb1.size) (.cells #[.int .i64 0,.string ⟨#[]⟩] 99)
   go_roundw
   case rel=>exact⟨i+1,acc,o+1,by omega,by go_num,by go_num,HE.out,(HO.out.below hb1).alloc _,hbw⟩
   case measure=>simp[intOf];omega
  have hlo:=Al4 G0.out G2.out (by omega) (by omega) hq
  obtain⟨k,hk⟩:∃k,((L.drop i).getD 1 0).toNat=k:=⟨_,rfl⟩
  obtain⟨d,hd⟩:∃d:ByteArray,d=⟨(((L.drop i).drop 3).take n).toArray⟩:=⟨_,rfl⟩
  rw[XQ hlo HX.out (d:=d) (by rw[hd]) hk]at hop
  have HE:Hid (C4 L (acc++[((L.drop i).getD 1 0,((L.drop i).drop 3).take n)]) (L.drop (i+n+5)) o):=by
   have:=HF.out.frame hlo
   rwa [show(L.drop i).drop (n+5)=L.drop (i+n+5)by rw[Zw,Nat.add_assoc]]at this
  have HN:Hid (cellsOf (acc++[((L.drop i).getD 1 0,((L.drop i).drop 3).take n)])=cellsOf acc++[.int .i64 (k:Nat),.string d]):=by
   show _=_
   rw[H0,<-hk,hd]
   rfl
  have HLen:Hid ((acc++[((L.drop i).getD 1 0,((L.drop i).drop 3).take n)]).length=acc.length+1):=by show _=_;simp
  clear hlo hq hd hk
  generalize acc++[((L.drop i).getD 1 0,((L.drop i).drop 3).take n)]=acc' at HE HN HLen
  go_wp2_with (first
   |(go_at_call 174;refine(hop _).mono ?_;rintro e w2 ⟨rfl,hb2⟩)
   |(at_builtin;refine wpList_append_own _ rfl (.tmp 73) (.tmp 75) 104 rfl w.heap.size 99 i0 (.agg #[.int .i64 0,.string ⟨#[]⟩]) 2 24 Tryz.underlying104 hi hz0 hz1 hz2 rfl (by decide) _ _ _ rfl (((HO.out.below hb2).alloc _).alloc _) ⟨w2.heap.size+1,0,none⟩ 1 1 [.int .i64 (k:Nat),.string d] rfl rfl (SP _ _ _ _ _ (by simp)) (by intro u hu;simp at hu;rcases hu with rfl |rfl<;>rfl) (by unfold maxLen;omega) (by omega) (by have:=hb2.size;have:=hnx.size;simp;omega) ?_;intro v3 w3 hown3 hgrow3 hnil3))
  have hF:=HO.out.below hb2
  have hbw:=hnx.trans (hb2.mono hnx.size)
  have hby:=hbw.alloc hbw.size (.cells #[.int .i64 (k:Nat),.string d] 99)
  have hbz:=(hby.alloc hby.size (.cells #[.int .i64 (k:Nat),.string d] 99)).grown hgrow3 (by have:=hbw.size;simp;omega) (fun j hj=>(World.ownsRow.lt hF j hj).1)
  clear hnil3 hgrow3
  go_roundw
  case rel=>exact⟨i+n+5,acc',o,by omega,by go_num,rfl,HE.out,by unfold Ev;rw[HLen.out,HN.out];exact hown3,hbz⟩
  case measure=>simp[intOf];omega
def Kr(k:Nat)(sl:Value)(l:List (UInt8×List UInt8)):Prop:=(sl=.slice none 0 0/\l=[])∨∃cap,sl=.slice (some ⟨k,0,none⟩) l.length cap
theorem Kr.real{k:Nat}{sl v:Value}{l:List (UInt8×List UInt8)}{bl:Bl}(h:Kr k sl l)(r:RV bl sl v):∃A cap,v=.slice A l.length cap/\(l≠[]->∃B,bl[k]? =some (some B)/\A=some ⟨B,0,none⟩):=by
 rcases h with⟨rfl,rfl⟩|⟨cap,rfl⟩
 ·exact⟨none,0,r,fun e=>absurd rfl e⟩
 ·obtain⟨B,h1,e⟩:=r
  exact⟨_,cap,e,fun _=>⟨B,h1,rfl⟩⟩
theorem Kr.ptr{k k2:Nat}{sl:Value}{l:List (UInt8×List UInt8)}(h:Kr k sl l)(hk:k<k2):Ch k2 sl=true:=by
 rcases h with⟨rfl,_⟩|⟨cap,rfl⟩
 ·rfl
 ·exact decide_eq_true hk
theorem RW.framesAt{bs:List Nat}{w0:World}{bl:Bl}{m:Xm}{w w':World}{k:Nat}(h:RW bs w0 bl m w)(hl:bl.length=k)(hm:m.length=k)(hb:Below w.heap.size w w'){v:Value}{l:List (UInt8×List UInt8)}(hf:Ev w.heap.size w' v l):
    ∃x sl,Kr k sl l/\RV (bl++[x]) sl v/\RW bs w0 (bl++[x]) (m++[cellsOf l]) w':=by
 have h':=h.pure hb
 rcases hf.2 with⟨rfl,h0⟩|⟨g,cap,cur,rfl,hg,hgg,_,_,_,hx⟩
 ·exact⟨none,.slice none 0 0,.inl ⟨rfl,List.length_eq_zero_iff.1 h0⟩,rfl,h'.wide 1 _⟩
 ·have h3:(bl++[some g])[k]? =some (some g):=by rw[List.getElem?_append_right (by omega),hl,Nat.sub_self];rfl
  refine⟨some g,.slice (some ⟨k,0,none⟩) l.length cap,.inr ⟨cap,rfl⟩,⟨g,h3,rfl⟩,h'.add (hl.trans hm.symm) (QQ hgg hx) (Nat.le_trans h.size hg) (fun k hk=>?_)⟩
  obtain⟨_,_,A⟩:=h.arr k g hk
  have:=A.lies
  omega
theorem XR{P:Program}{tF:TypeId}{l:List (UInt8×List UInt8)}{i:Int}(ha:qrun P (isAgg tF)=some true)(hz:qrun P (sizeOf tF)=some 2)(hil:i.toNat<l.length)(_:0<=i):C3 P tF (cellsOf l) (i.toNat*2)=some (.agg #[.int .i64 (frL l i).1,.string (frL l i).2]):=by
 have hc:=Jx l i.toNat hil
 have hcl:=HV l
 have hf:frL l i=(((l[i.toNat].1.toNat:Nat):Int),(⟨l[i.toNat].2.toArray⟩:ByteArray)):=by unfold frL;rw[List.getElem?_eq_getElem hil]
 unfold C3
 rw[ha,hz]
 dsimp only
 rw[if_pos (by omega),hf]
 have hd:((cellsOf l).drop (i.toNat*2)).take 2=[.int .i64 (l[i.toNat].1.toNat:Nat),.string ⟨l[i.toNat].2.toArray⟩]:=by
  obtain⟨q1,q2⟩:=Zs.1 hc.1
  obtain⟨q3,q4⟩:=Zs.1 hc.2
  rw[List.drop_eq_getElem_cons q1,List.drop_eq_getElem_cons q3,q2,q4]
  rfl
 rw[hd]
def Amj(x:Fra)(G:List Value->Prop):Prop:=(x.1=0->G [.int .i64 0,.string x.2])/\(x.1=1->G [.int .i64 1,.string x.2])/\(x.1=2->G [.int .i64 2,.string x.2])/\(x.1=3->G [.int .i64 3,.string x.2])/\(∀n:Nat,x.1=((n+4:Nat):Int)->G [.int .i64 ((n+4:Nat):Int),.string x.2])
theorem Ae3{x:Fra}{G:List Value->Prop}(hx:0<=x.1)(h:Amj x G):G [.int .i64 x.1,.string x.2]:=by
 by_cases h0:x.1=0
 ·rw[h0];exact h.1 h0
 by_cases h1:x.1=1
 ·rw[h1];exact h.2.1 h1
 by_cases h2:x.1=2
 ·rw[h2];exact h.2.2.1 h2
 by_cases h3:x.1=3
 ·rw[h3];exact h.2.2.2.1 h3
 have e:x.1=(((x.1.toNat-4)+4:Nat):Int):=by omega
 rw[e]
 exact h.2.2.2.2 _ e
theorem Au6(l:List (UInt8×List UInt8))(i:Int):0<=(frL l i).1:=by
 unfold frL
 split
 ·exact Int.natCast_nonneg _
 ·exact Int.le_refl 0
def Amk(K:List Value->Xm->Prop)(vt:List Value)(m:Xm):Prop:=
 match vt.getD 3 undef,vt.getD 2 undef,m.headD []with
 | .pointer (some ⟨0,0,none⟩),.string s1,_::_::.string s0::_=>
  s0.size+s1.size<=5000/\m.length=4/\vt.length=116/\∀sl,Kr 4 sl (scanL (s0++s1).data.toList).1->K ((((((((((((vt.set 20 .nilIface).set 21 .nilIface).set 22 .nilIface).set 23 .nilIface).set 24 .nilIface).set 19 .nilIface).set 25 sl).set 26 (.string (restOf (s0++s1).data.toList))).set 27 (.int .i64 ((scanL (s0++s1).data.toList).2.2:Nat))).set 9 sl).set 10 (.string (restOf (s0++s1).data.toList))).set 11 (.int .i64 ((scanL (s0++s1).data.toList).2.2:Nat))) (m++[cellsOf (scanL (s0++s1).data.toList).1])
 |_,_,_=>False
theorem Vv{bs:List Nat}{w0:World}{ds:List Deferred}{bl0:Bl}{K:List Value->Xm->Prop}{Q:Exit->Act->World->Prop}{bl:Bl}{vt:List Value}{m:Xm}{a:Act}{w:World}{ops:Array Oper}{tC tT:TypeId}{fn:Nat}{o0 o1 o2 o3 o4 o5 o6 o7 o8 o9 o10 o11:Oper}(hfn:fn=59)
    (hfl:Hi Zm tC 2=some 2) (hag:qrun Zm (isAgg tT)=some false) (ho:ops=#[o0,o1,o2,o3,o4,o5,o6,o7,o8,o9,o10,o11])
    (h0:o0.dst=some 20/\o0.op=.fieldAddr tC (.tmp 3) 2/\o0.guard=none) (h1:o1.dst=some 21/\o1.op=.load tT (.tmp 20)/\o1.guard=none) (h2:o2.dst=some 22/\o2.op=.move (.tmp 2)/\o2.guard=none) (h3:o3.dst=some 23/\o3.op=.binOp .add tT (.tmp 21) (.tmp 22) tT/\o3.guard=none) (h4:o4.dst=some 24/\o4.op=.call {callee:=.value (.func fn),args:=#[.tmp 23],argTypes:=#[tT]}/\o4.guard=none) (h5:o5.dst=some 19/\o5.op=.move (.tmp 24)/\o5.guard=none) (h6:o6.dst=some 25/\o6.op=.extract (.tmp 19) 0/\o6.guard=none) (h7:o7.dst=some 26/\o7.op=.extract (.tmp 19) 1/\o7.guard=none) (h8:o8.dst=some 27/\o8.op=.extract (.tmp 19) 2/\o8.guard=none) (h9:o9.dst=some 9/\o9.op=.assign (.tmp 25)/\o9.guard=none) (h10:o10.dst=some 10/\o10.op=.assign (.tmp 26)/\o10.guard=none) (h11:o11.dst=some 11/\o11.op=.assign (.tmp 27)/\o11.guard=none)
    (h:Amk K vt m) (r:Rl bs w0 ds bl0 bl vt m a w) (hK:∀bl vt m a w,K vt m->Rl bs w0 ds bl0 bl vt m a w->Q .normal a w):(Code.region 2 ops false).wp Zm Q a w:=by
 subst ho hfn
 have hlen:=r.F.len
 unfold Amk at h
 split at h
 case h_2=>exact h.elim
 rename_i s1 x0 x1 s0 xs hp h2v hrow
 obtain⟨hsz,hm3,hlt,hk⟩:=h
 rw[hlt]at hlen
 have hbl:bl.length=4:=r.len.trans hm3
 have hp':=r.F.rv 3
 rw[hp]at hp'
 obtain⟨B,hB,hpe⟩:=hp'
 have hpe:a.eval (.tmp 3)=.pointer (some ⟨B,0,none⟩):=hpe
 have h2':=r.F.rv 2
 rw[h2v]at h2'
 have h2':a.eval (.tmp 2)=.string s1:=h2'
 obtain⟨row,e0,A0⟩:=r.R.arr 0 B hB
 have erow:row=x0::x1::.string s0::xs:=by
  match m,e0,hrow with
  |_::_,e0,hrow=>cases e0;exact hrow
 subst erow
 have hld:C3 Zm tT (x0::x1::.string s0::xs) 2=some (.string s0):=by unfold C3;rw[hag];rfl
 have rld:=EN hld A0
 have rfl1:=I9 hfl B 0 w
 have F:=r.F
 have D:=r.defers
 refine wp_region ?_
 have E2:=h2'
 refine As (v:=.nilIface) (v':=(.pointer (some ⟨B,2,none⟩))) (w':=w) rfl h0.1 (Am h0.2.2) (by simp[execOp,h0.2.1,hpe,rfl1]) F D hlen (by decide) (rfl) fun a F D hlen E20 X=>?_
 have E2:=(X 2 (by decide)).trans E2
 refine As (v:=.nilIface) (v':=(.string s0)) (w':=w) rfl h1.1 (Am h1.2.2) (by simp[execOp,h1.2.1,E20,Instr.loadAt,Instr.sureAddr,rld]) F D hlen (by decide) (rfl) fun a F D hlen E21 X=>?_
 have E2:=(X 2 (by decide)).trans E2
 refine As (v:=.nilIface) (v':=(.string s1)) (w':=w) rfl h2.1 (Am h2.2.2) (by simp[execOp,h2.2.1,E2]) F D hlen (by decide) (rfl) fun a F D hlen E22 X=>?_
 have E21:=(X 21 (by decide)).trans E21
 refine As (v:=.nilIface) (v':=(.string (s0++s1))) (w':=w) rfl h3.1 (Am h3.2.2) (by simp[execOp,h3.2.1,E21,E22,eqGuard,binOp,Op.stringOp];omega) F D hlen (by decide) (rfl) fun a F D hlen E23 X=>?_
 have hss:(s0++s1).size<=5000:=by rw[ByteArray.size_append];exact hsz
 refine Oo (o:=o4) (args:=#[.string (s0++s1)]) rfl h4.2.2 ?_ (Ae2 (s0++s1) w hss) ?_
 ·have:=Ae Tryz.func59 (by kernel_rfl) (by kernel_rfl) #[.string (s0++s1)] w
  have hf:a.eval (.func 59)=.func (.func 59) #[] #[]:=rfl
  simp[execOp,h4.2.1,resolve,hf,E23,Deferred.ofValue,invoke,this]
 rintro e w' ⟨v,rr,rfl,hrr,hfr,hbel⟩
 refine⟨_,rfl,?_⟩
 obtain⟨x,sl,hsl,hrv,R'⟩:=r.R.framesAt hbl hm3 hbel hfr
 have hrr':rr=restOf (s0++s1).data.toList:=by
  unfold restOf
  rw[<-hrr]
 subst hrr'
 have hL:=Le.last bl x
 have F:=F.mono hL
 have hk:=hk sl hsl
 rw[h4.1]
 have F:=F.put (v:=.nilIface) (v':=(.tuple #[v,.string (restOf (s0++s1).data.toList),.int .i64 ((scanL (s0++s1).data.toList).2.2:Nat)])) rfl (some 24)
 have D:=(AL a (some 24) (.tuple #[v,.string (restOf (s0++s1).data.toList),.int .i64 ((scanL (s0++s1).data.toList).2.2:Nat)])).trans D
 have E24:(a.put (some 24) (.tuple #[v,.string (restOf (s0++s1).data.toList),.int .i64 ((scanL (s0++s1).data.toList).2.2:Nat)])).eval (.tmp 24)=(.tuple #[v,.string (restOf (s0++s1).data.toList),.int .i64 ((scanL (s0++s1).data.toList).2.2:Nat)]):=GA (by rw[hlen];decide)
 have hlen:=(Gb (a:=a) (d:=some 24) (v:=(.tuple #[v,.string (restOf (s0++s1).data.toList),.int .i64 ((scanL (s0++s1).data.toList).2.2:Nat)]))).trans hlen
 generalize a.put (some 24) (.tuple #[v,.string (restOf (s0++s1).data.toList),.int .i64 ((scanL (s0++s1).data.toList).2.2:Nat)])=a at F D E24 hlen ⊢
 refine As (v:=.nilIface) (v':=(.tuple #[v,.string (restOf (s0++s1).data.toList),.int .i64 ((scanL (s0++s1).data.toList).2.2:Nat)])) (w':=w') rfl h5.1 (Am h5.2.2) (by simp[execOp,h5.2.1,E24]) F D hlen (by decide) (rfl) fun a F D hlen E19 X=>?_
 refine As (v:=sl) (v':=v) (w':=w') rfl h6.1 (Am h6.2.2) (by simp[execOp,h6.2.1,E19,Instr.extract]) F D hlen (by decide) (hrv) fun a F D hlen E25 X=>?_
 have E19:=(X 19 (by decide)).trans E19
 refine As (v:=(.string (restOf (s0++s1).data.toList))) (v':=(.string (restOf (s0++s1).data.toList))) (w':=w') rfl h7.1 (Am h7.2.2) (by simp[execOp,h7.2.1,E19,Instr.extract]) F D hlen (by decide) (rfl) fun a F D hlen E26 X=>?_
 have E19:=(X 19 (by decide)).trans E19
 have E25:=(X 25 (by decide)).trans E25
 refine As (v:=(.int .i64 ((scanL (s0++s1).data.toList).2.2:Nat))) (v':=(.int .i64 ((scanL (s0++s1).data.toList).2.2:Nat))) (w':=w') rfl h8.1 (Am h8.2.2) (by simp[execOp,h8.2.1,E19,Instr.extract]) F D hlen (by decide) (rfl) fun a F D hlen E27 X=>?_
 have E25:=(X 25 (by decide)).trans E25
 have E26:=(X 26 (by decide)).trans E26
 refine As (v:=sl) (v':=v) (w':=w') rfl h9.1 (Am h9.2.2) (by simp[execOp,h9.2.1,E25]) F D hlen (by decide) (hrv) fun a F D hlen E9 X=>?_
 have E26:=(X 26 (by decide)).trans E26
 have E27:=(X 27 (by decide)).trans E27
 refine As (v:=(.string (restOf (s0++s1).data.toList))) (v':=(.string (restOf (s0++s1).data.toList))) (w':=w') rfl h10.1 (Am h10.2.2) (by simp[execOp,h10.2.1,E26]) F D hlen (by decide) (rfl) fun a F D hlen E10 X=>?_
 have E27:=(X 27 (by decide)).trans E27
 refine As (v:=(.int .i64 ((scanL (s0++s1).data.toList).2.2:Nat))) (v':=(.int .i64 ((scanL (s0++s1).data.toList).2.2:Nat))) (w':=w') rfl h11.1 (Am h11.2.2) (by simp[execOp,h11.2.1,E27]) F D hlen (by decide) (rfl) fun a F D hlen E11 X=>?_
 exact hK _ _ _ _ _ hk ⟨F,R',r.le.trans hL,by rw[Zo,Zo,hbl,hm3];rfl,D⟩
def ADr(l:List (UInt8×List UInt8))(K:List Value->Xm->Prop)(vt:List Value)(m:Xm):Prop:=
 match vt.getD 12 undef with
 | .int .i64 i=>Kr 4 (vt.getD 9 undef) l/\vt.length=116/\K ((((vt.set 34 (.int .i64 i)).set 35 (vt.getD 9 undef)).set 36 (.int .i64 (l.length:Nat))).set 37 (.bool (decide (i<(l.length:Nat))))) m
 |_=>False
theorem XS{bs:List Nat}{w0:World}{ds:List Deferred}{bl0:Bl}{K:List Value->Xm->Prop}{Q:Exit->Act->World->Prop}{bl:Bl}{vt:List Value}{m:Xm}{a:Act}{w:World}{l:List (UInt8×List UInt8)}{ops:Array Oper}{tS e tI:TypeId}{o0 o1 o2 o3:Oper}(hu:Zm.underlying tS=some (.slice e))(ho:ops=#[o0,o1,o2,o3])
    (h0:o0.dst=some 34/\o0.op=.move (.tmp 12)/\o0.guard=none) (h1:o1.dst=some 35/\o1.op=.move (.tmp 9)/\o1.guard=none) (h2:o2.dst=some 36/\o2.op=.call {callee:=.builtin .len,args:=#[.tmp 35],argTypes:=#[tS]}/\o2.guard=none) (h3:o3.dst=some 37/\o3.op=.binOp .lss tI (.tmp 34) (.tmp 36) tI/\o3.guard=none)
    (h:ADr l K vt m) (r:Rl bs w0 ds bl0 bl vt m a w) (hK:∀bl vt m a w,K vt m->Rl bs w0 ds bl0 bl vt m a w->Q .normal a w):(Code.region 7 ops false).wp Zm Q a w:=by
 subst ho
 have hlen:=r.F.len
 unfold ADr at h
 split at h
 case h_2=>exact h.elim
 rename_i i hi
 obtain⟨hsl,hlt,hk⟩:=h
 rw[hlt]at hlen
 have hiv:=r.F.rv 12
 rw[hi]at hiv
 have E12:a.eval (.tmp 12)=.int .i64 i:=hiv
 have hv:=r.F.rv 9
 obtain⟨A,cap,hs,_⟩:=hsl.real hv
 have E9:a.eval (.tmp 9)=.slice A l.length cap:=hs
 rw[hs]at hv
 have r0:=BQ hu w
 have F:=r.F
 have D:=r.defers
 refine wp_region ?_
 refine As (v:=(.int .i64 i)) (v':=(.int .i64 i)) (w':=w) rfl h0.1 (Am h0.2.2) (by simp[execOp,h0.2.1,E12]) F D hlen (by decide) (rfl) fun a F D hlen E34 X=>?_
 have E9:=(X 9 (by decide)).trans E9
 refine As (v:=(vt.getD 9 undef)) (v':=(.slice A l.length cap)) (w':=w) rfl h1.1 (Am h1.2.2) (by simp[execOp,h1.2.1,E9]) F D hlen (by decide) (hv) fun a F D hlen E35 X=>?_
 have E34:=(X 34 (by decide)).trans E34
 refine As (v:=(.int .i64 (l.length:Nat))) (v':=(.int .i64 (l.length:Nat))) (w':=w) rfl h2.1 (Am h2.2.2) (by simp[execOp,h2.2.1,resolve,invoke,builtin,E35,Builtin.len_,r0,goInt]) F D hlen (by decide) (rfl) fun a F D hlen E36 X=>?_
 have E34:=(X 34 (by decide)).trans E34
 refine As (v:=(.bool (decide (i<(l.length:Nat))))) (v':=(.bool (decide (i<(l.length:Nat))))) (w':=w) rfl h3.1 (Am h3.2.2) (by simp[execOp,h3.2.1,E34,E36,eqGuard,binOp,Op.intCmp]) F D hlen (by decide) (rfl) fun a F D hlen E37 X=>?_
 exact hK _ _ _ _ _ hk ⟨F,r.R,r.le,r.len,D⟩
def ADs(l:List (UInt8×List UInt8))(K:List Value->Xm->Prop)(vt:List Value)(m:Xm):Prop:=
 match vt.getD 12 undef with
 | .int .i64 i=>(0<=i/\i.toNat<l.length)/\Kr 4 (vt.getD 9 undef) l/\m[4]? =some (cellsOf l)/\m.length=5/\vt.length=116/\Amj (frL l i) fun row=>K (((((vt.set 40 (vt.getD 9 undef)).set 41 (.int .i64 i)).set 42 .nilIface).set 43 .nilIface).set 13 (.pointer (some ⟨5,0,none⟩))) (m++[row])
 |_=>False
theorem XT{bs:List Nat}{w0:World}{ds:List Deferred}{bl0:Bl}{K:List Value->Xm->Prop}{Q:Exit->Act->World->Prop}{bl:Bl}{vt:List Value}{m:Xm}{a:Act}{w:World}{l:List (UInt8×List UInt8)}{ops:Array Oper}{tS tF:TypeId}{om1 om2 o0 o1 o2 o3:Oper}(hu:Zm.underlying tS=some (.slice tF))(hz:qrun Zm (sizeOf tF)=some 2)(ha:qrun Zm (isAgg tF)=some true){z:Value}(hzv:qrun Zm (zeroValue tF)=some z)(hzl:z.cells.toList.length=2)(ho:ops=#[om1,om2,o0,o1,o2,o3])
    (hm1:om1.dst=some 40/\om1.op=.move (.tmp 9)/\om1.guard=none) (hm2:om2.dst=some 41/\om2.op=.move (.tmp 12)/\om2.guard=none)
    (h0:o0.dst=some 42/\o0.op=.indexAddr tS (.tmp 40) (.tmp 41)/\o0.guard=none) (h1:o1.dst=some 43/\o1.op=.load tF (.tmp 42)/\o1.guard=none) (h2:o2.dst=some 13/\o2.op=.alloc tF/\o2.guard=none) (h3:o3.dst=none/\o3.op=.store tF (.tmp 13) (.tmp 43)/\o3.guard=none)
    (h:ADs l K vt m) (r:Rl bs w0 ds bl0 bl vt m a w) (hK:∀bl vt m a w,K vt m->Rl bs w0 ds bl0 bl vt m a w->Q .normal a w):(Code.region 9 ops false).wp Zm Q a w:=by
 subst ho
 have hlen:=r.F.len
 unfold ADs at h
 split at h
 case h_2=>exact h.elim
 rename_i i hi
 obtain⟨⟨hi0,hil⟩,hsl,hm3,hm5,hlt,hk⟩:=h
 rw[hlt]at hlen
 have hiv:=r.F.rv 12
 rw[hi]at hiv
 have E12:a.eval (.tmp 12)=.int .i64 i:=hiv
 obtain⟨A,cap,hs,hB⟩:=hsl.real (r.F.rv 9)
 have E9:a.eval (.tmp 9)=.slice A l.length cap:=hs
 have hv:=r.F.rv 9
 rw[show a.tmps.getD 9 undef=.slice A l.length cap from hs]at hv
 obtain⟨B,hb3,rfl⟩:=hB (by rintro rfl;simp at hil)
 obtain⟨row,e3,A3⟩:=r.R.arr 4 B hb3
 rw[hm3]at e3
 cases e3
 have hrow:=XR ha hz hil hi0
 have rld:=EN hrow A3
 have F:=r.F
 have D:=r.defers
 refine wp_region ?_
 have hil':i<(l.length:Int):=by omega
 have r0:=BQ hu w
 have r1:=AT _ hz w
 refine As (v:=(vt.getD 9 undef)) (v':=(.slice (some ⟨B,0,none⟩) l.length cap)) (w':=w) rfl hm1.1 (Am hm1.2.2) (by simp[execOp,hm1.2.1,E9]) F D hlen (by decide) (hv) fun a F D hlen E40 X=>?_
 have E12:=(X 12 (by decide)).trans E12
 refine As (v:=(.int .i64 i)) (v':=(.int .i64 i)) (w':=w) rfl hm2.1 (Am hm2.2.2) (by simp[execOp,hm2.2.1,E12]) F D hlen (by decide) (rfl) fun a F D hlen E41 X=>?_
 have E40:=(X 40 (by decide)).trans E40
 refine As (v:=.nilIface) (v':=(.pointer (some ⟨B,i.toNat*2,none⟩))) (w':=w) rfl h0.1 (Am h0.2.2) (by simp[execOp,h0.2.1,E40,E41,Instr.indexAt,asIntOf,r0,r1,hi0,hil',FH,Sem.run_bind]) F D hlen (by decide) (rfl) fun a F D hlen E42 X=>?_
 refine As (v:=.nilIface) (v':=(.agg #[Value.int .i64 (frL l i).1,Value.string (frL l i).2])) (w':=w) rfl h1.1 (Am h1.2.2) (by simp[execOp,h1.2.1,E42,Instr.loadAt,Instr.sureAddr,rld]) F D hlen (by decide) (rfl) fun a F D hlen E43 X=>?_
 have hw3:(execOp a.eval o2).run Zm w=.ok (.value (.pointer (some ⟨w.heap.size,0,none⟩))) (w.alloc (.cells z.cells.toList.toArray tF)):=by
  have r:=AT _ hzv w
  simp[execOp,h2.2.1,Instr.alloc,newVar,newRow,newObj,r,Sem.run]
 have hbl:bl.length=5:=r.len.trans hm5
 have WW:=r.R.wide 1 [[Value.int .i64 (frL l i).1,Value.string (frL l i).2]]
 obtain⟨N,hle⟩:=WW.new (k:=5) (by rw[List.getElem?_append_right (by omega),hbl,Nat.sub_self];rfl) (by rw[Zo,hm5];exact Zx 5) z.cells.toList tF
 have hg5:((bl++Zq 1 none).set 5 (some w.heap.size))[5]? =some (some w.heap.size):=List.getElem?_set_self (by rw[Zo,hbl];exact Zx 5)
 have hm6:((m++[[Value.int .i64 (frL l i).1,Value.string (frL l i).2]]).set 5 z.cells.toList)[5]? =some z.cells.toList:=List.getElem?_set_self (by rw[Zo,hm5];exact Zx 5)
 obtain⟨row,e5,A5⟩:=N.arr 5 _ hg5
 rw[hm6]at e5
 cases e5
 have hst:EU Zm tF z.cells.toList 0 (.agg #[Value.int .i64 (frL l i).1,Value.string (frL l i).2])=some (setAt z.cells.toList 0 [Value.int .i64 (frL l i).1,Value.string (frL l i).2]):=by
  unfold EU
  rw[hz]
  dsimp only
  rw[if_pos (by rw[hzl];rfl)]
  rfl
 obtain⟨r3,_,hl3⟩:=Gn hst A5
 have hL:Le bl ((bl++Zq 1 none).set 5 (some w.heap.size)):=(Le.wide bl 1).trans hle
 have F:=F.mono hL
 refine As (v:=.pointer (some ⟨5,0,none⟩)) rfl h2.1 (Am h2.2.2) hw3 F D hlen (by decide) (RV.at hg5 0) fun a F D hlen E13 X=>?_
 have E43:=(X 43 (by decide)).trans E43
 refine Of (o:=o3) (w':=JQ (w.alloc (.cells z.cells.toList.toArray tF)) w.heap.size 0 [Value.int .i64 (frL l i).1,Value.string (frL l i).2]) rfl h3.2.2 ?_ ?_
 ·simp[execOp,h3.2.1,E13,E43,Instr.storeAt,Instr.sureAddr,r3]
  rfl
 rw[h3.1]
 have hrow5:setAt z.cells.toList 0 [Value.int .i64 (frL l i).1,Value.string (frL l i).2]=[Value.int .i64 (frL l i).1,Value.string (frL l i).2]:=by
  match z.cells.toList,hzl with
  |[_,_],_=>rfl
 have R5:=N.store hg5 hm6 0 [Value.int .i64 (frL l i).1,Value.string (frL l i).2] hl3
 rw[hrow5]at R5
 have hmm:((m++[[Value.int .i64 (frL l i).1,Value.string (frL l i).2]]).set 5 z.cells.toList).set 5 [Value.int .i64 (frL l i).1,Value.string (frL l i).2]=m++[[Value.int .i64 (frL l i).1,Value.string (frL l i).2]]:=by
  rw[List.set_set,List.set_append_right _ _ (by omega),hm5,Nat.sub_self]
  rfl
 rw[hmm]at R5
 exact hK _ _ _ _ _ (Ae3 (Au6 l i) hk) ⟨F,R5,r.le.trans hL,by rw[List.length_set,Zo,Zo,hbl,hm5];rfl,by rw[AL];exact D⟩
structure DsOk(F:Fs):Prop where
 right:Ah Zm 17 (Aa cI) F.right cB
 place:Ai Zm 20 (Ac (cT 7) (Aa cI)) F.place (cT 3)
 dir:Ai Zm 21 (Aa cI) F.dir (cT 3)
 sky:Ai Zm 22 (Ac (cT 3) (Aa cI)) F.sky (cT 3)
 norm:Ai Zm 23 (Aa (cT 3)) F.norm cI
 apart:Ai Zm 24 (Ac (cT 3) (Aa (cT 3))) F.apart cB
 shaded:Ai Zm 25 (Ac (cT 3) (Aa (cT 3))) F.shaded cB
 move:Ai Zm 26 (Ac (cT 43) (Ac (cT 3) (Aa cI))) F.move (cT 43)
 meet:Ai Zm 27 (Ac (cT 43) (Ac (cT 6) (Aa (cT 6)))) F.meet (Og (cT 43) cI cB)
 spread:Ai Zm 28 (Aa (cT 43)) F.spread cI
 att:Ai Zm 30 (Ac (cT 6) (Aa (cT 6))) F.att (cT 4)
 start:Ah Zm 31 (Aa (cT 4)) F.start (cT 43)
 bstep:Ai Zm 19 (Ac cDri (Ac (cT 3) (Aa cI))) F.bstep cDri
 dip:Ai Zm 32 (Aa cDri) F.dip (cT 3)
 next:Ah Zm 29 (Ac (cT 6) (Aa cSee)) F.next (cT 6)
 counts:Ah Zm 33 (Ac (cT 4) (Aa (cT 3))) F.counts (Au (cT 4) (cT 3))
 write:Ah Zm 34 (Aa (cT 13)) F.write (Au AU cB)
 wrap:Ah Zm 35 (Aa AU) F.wrap (Au cS cB)
 read:Ah Zm 61 (Aa AU) F.read (Au (cT 5) cB)
 fresh:Ah Zm 62 (Ac (cT 5) (Aa cI)) F.fresh cB
 oread:Ah Zm 63 (Aa AU) F.oread (Au (cT 9) cI)
def ADt(c:Cra)(r:Int):Cra:=(c.1,c.2.1,c.2.2.1,c.2.2.2.1,c.2.2.2.2.1,c.2.2.2.2.2.1,c.2.2.2.2.2.2.1,c.2.2.2.2.2.2.2.1,(c.2.2.2.2.2.2.2.2.1,c.2.2.2.2.2.2.2.2.2.1,r,()))
def ADu(c:Cra):Cra:=if c.2.2.2.2.2.2.2.2.2.2.1≥65535 then ADt c 65535 else ADt c (IntKind.i64.wrap (c.2.2.2.2.2.2.2.2.2.2.1+1))
theorem Au7:ADu=rejC:=by
 funext c
 unfold ADu rejC Vk ADt
 split<;>rfl
theorem XU:Ah Zm 60 (Aa cCra) rejC cCra:=by
 rw[<-Au7]
 exact Av (tbl:=[]) (dirty:=fun _=>[]) (n:=4) xmixA Tryz.func60 rfl (fun x Post=>by
  refine Eq.trans (b:=?m) ?x (Eq.symm ?y)
  case y=>unfold ADu;simp only[<-AB3 (K:=PJ cCra Post)];exact rfl
  case x=>kernel_rfl)
def Ae4:Ct Zm:=Aq Zm 60 (Aa cCra) rejC cCra (Ae Tryz.func60 (by kernel_rfl) (by kernel_rfl)) XU
def AJs(F:Fs)(h:DsOk F):Ct Zm:=Aq Zm 61 _ F.read _ (Ae Tryz.func61 (by kernel_rfl) (by kernel_rfl)) h.read
def ADv(F:Fs)(h:DsOk F):Ct Zm:=Aq Zm 62 _ F.fresh _ (Ae Tryz.func62 (by kernel_rfl) (by kernel_rfl)) h.fresh
def ADw(F:Fs)(h:DsOk F):Ct Zm:=Aq Zm 63 _ F.oread _ (Ae Tryz.func63 (by kernel_rfl) (by kernel_rfl)) h.oread
abbrev HeD:=Bool×Bool×Bool×Bool×Tup 5×Tup 5×Tup 5×Tup 5×Int
abbrev Vw:Dl HeD:=Ac cB (Ac cB (Ac cB (Ac cB (IS 5 (dT 5) (IS 5 (dT 5) (IS 5 (dT 5) (IS 5 (dT 5) (Aa cI))))))))
def M6:Tup 5:=(0,0,0,0,0,())
def zeroHeD:HeD:=(false,false,false,false,M6,M6,M6,M6,0)
def Au8(h:HeD)(r:Tup 5):HeD:=(h.1,true,h.2.2.1,h.2.2.2.1,h.2.2.2.2.1,r,h.2.2.2.2.2.2.1,h.2.2.2.2.2.2.2.1,h.2.2.2.2.2.2.2.2)
def Au9(h:HeD)(r:Tup 5):HeD:=(h.1,h.2.1,true,h.2.2.2.1,h.2.2.2.2.1,h.2.2.2.2.2.1,r,h.2.2.2.2.2.2.2.1,h.2.2.2.2.2.2.2.2)
def Ava(h:HeD)(r:Tup 5):HeD:=(h.1,h.2.1,h.2.2.1,true,h.2.2.2.2.1,h.2.2.2.2.2.1,h.2.2.2.2.2.2.1,r,h.2.2.2.2.2.2.2.2)
def Aml(h:HeD)(o:Int):HeD:=(h.1,h.2.1,h.2.2.1,h.2.2.2.1,h.2.2.2.2.1,h.2.2.2.2.2.1,h.2.2.2.2.2.2.1,h.2.2.2.2.2.2.2.1,o)
def fks:List Nat:=[1,3,6,7,8,12,9]
def fkF(t i:Int)(sl:Value)(d:Nat->Value):List Value:=Kl [(1,.int .i64 t),(3,ptr 0),(6,ptr 1),(7,ptr 2),(8,ptr 3),(12,.int .i64 i),(9,sl)] d 116
def fkE(t i n:Int)(sl:Value)(d:Nat->Value):List Value:=vset (((((fkF t i sl d).set 34 (.int .i64 i)).set 35 sl).set 36 (.int .i64 n)).set 37 (.bool (decide (i<n)))) (.tmp 37) false
def fkM(c:Cra)(h:HeD)(l:List (UInt8×List UInt8)):Xm:=[C5.enc c,C5.enc zeroCra,Vw.enc zeroHeD,Vw.enc h,cellsOf l]
def fkT(F:Fs)(h:DsOk F):List (Ct Zm):=[Ae4,AJs F h,ADv F h,ADw F h]
def fkO(F:Fs)(h:DsOk F)(l:List (UInt8×List UInt8)):Ov:=fun id=>match id with
 |2=>some fun _ _=>Amk
 |6=>some (Du Zm (fkT F h) (fun _=>[]) 6 fks 116 5)
 |7=>some fun _ _=>ADr l
 |8=>some (Du Zm (fkT F h) (fun _=>[]) 8 fks 116 5)
 |9=>some fun _ _=>ADs l
 |_=>none
def fkB(P:Program):Code:=Bd [true,true,true,true,true,false,true] (An P 18)
def fkL(P:Program):Code:=Bd [false,false] (fkB P)
def fkZ(P:Program):Code:=Bd [true,true,true,true,true,true] (An P 18)
section
variable (F:Fs) (h:DsOk F)
def fnx(t i:Int)(sl:Value)(l:List (UInt8×List UInt8))(Q:VQ)(s:Cra×HeD):Prop:=
 116=116/\(Ch 5 sl&&true)=true/\∀d,Q .normal (fkF t (IntKind.i64.wrap (i+1)) sl d) (fkM s.1 s.2 l)
def Amm(t:Int)(c:Cra)(x:HeD)(f:Fra)(set:HeD->Tup 5->HeD)(N:Cra×HeD->Prop):Prop:=
 AE (!(F.read f).2) (N (rejC c,x)) (AE (!(F.fresh ((F.read f).1,t))) (N (rejC c,x)) (N (c,set x (F.read f).1)))
def Avd(c:Cra)(x:HeD)(o:Tup 9×Int)(N:Cra×HeD->Prop):Prop:=
 AE (!decide (o.2=0)) (N (rejC (Ga c o.1.1 o.2),x)) (AE (decide (o.1.2.1=1)) (N (Ga c o.1.1 o.2,Aml x o.1.2.1)) (AE (decide (o.1.2.1=2)) (N (Ga c o.1.1 o.2,Aml x o.1.2.1))
  (AE (decide (o.1.2.1=3)) (N (Auz (Ga c o.1.1 o.2) o.1.2.2,x)) (AE (decide (o.1.2.1=4)) (N (Au0 (Ga c o.1.1 o.2),x)) (N (Ga c o.1.1 o.2,x))))))
def Aau(t:Int)(c:Cra)(x:HeD)(f:Fra)(N:Cra×HeD->Prop):Prop:=
 (f.1=0->N (rejC c,x))/\(f.1=1->Amm F t c x (1,f.2) Au8 N)/\(f.1=2->Amm F t c x (2,f.2) Au9 N)/\(f.1=3->Amm F t c x (3,f.2) Ava N)/\
  (∀n:Nat,f.1=((n+4:Nat):Int)->AE (decide (((n+4:Nat):Int)≥1)) (AE (!decide (((n+4:Nat):Int)=16)) (N (rejC c,x)) (Avd c x (F.oread (((n+4:Nat):Int),f.2)) N)) (AE (!decide (((n+4:Nat):Int)=16)) (N (rejC c,x)) (Avd c x (F.oread (((n+4:Nat):Int),f.2)) N)))
theorem Amn(n:Nat)(t i:Int)(sl:Value)(d:Nat->Value)(l:List (UInt8×List UInt8))(c:Cra)(x:HeD)(Q:VQ):
    Ao Zm (fkT F h) (fun _=>[]) n (fkO F h l) (fkL Zm) Q (fkF t i sl d) (fkM c x l)=
      (Kr 4 sl l/\116=116/\AE (decide (i<(l.length:Nat))) ((0<=i/\i.toNat<l.length)/\Kr 4 sl l/\some (cellsOf l)=some (cellsOf l)/\5=5/\116=116/\Aau F t c x (frL l i) (fnx t i sl l Q))
      (Q (.exit 0) (fkE t i (l.length:Nat) sl d) (fkM c x l))):=by kernel_rfl
end
abbrev MH:Dc HeD:=SH Vw
def PS(F:Fs)(t:Int)(c:Cra)(x:HeD)(f:Fra)(set:HeD->Tup 5->HeD):Cra×HeD:=
 if !(F.read f).2 then(rejC c,x)else if !(F.fresh ((F.read f).1,t))then(rejC c,x)else(c,set x (F.read f).1)
def XV(c:Cra)(x:HeD)(o:Tup 9×Int):Cra×HeD:=
 if !decide (o.2=0)then(rejC (Ga c o.1.1 o.2),x)else if decide (o.1.2.1=1)then(Ga c o.1.1 o.2,Aml x o.1.2.1)else if decide (o.1.2.1=2)then(Ga c o.1.1 o.2,Aml x o.1.2.1)
  else if decide (o.1.2.1=3)then(Auz (Ga c o.1.1 o.2) o.1.2.2,x)else if decide (o.1.2.1=4)then(Au0 (Ga c o.1.1 o.2),x)else(Ga c o.1.1 o.2,x)
def Gd(F:Fs)(t:Int)(s:Cra×HeD)(f:Fra):Cra×HeD:=
 if f.1=1 then PS F t s.1 s.2 f Au8 else if f.1=2 then PS F t s.1 s.2 f Au9 else if f.1=3 then PS F t s.1 s.2 f Ava else if f.1=16 then XV s.1 s.2 (F.oread f)else(rejC s.1,s.2)
def takeD(F:Fs)(c:Cra)(t:Int)(b:ByteArray):Cra×HeD:=
 ((scanL (c.2.2.1++b).data.toList).1.map GX).foldl (Gd F t) (XP c (c.2.2.1++b).data.toList,zeroHeD)
theorem Ave(F:Fs)(t:Int)(c:Cra)(x:HeD)(f:Fra)(set:HeD->Tup 5->HeD)(N:Cra×HeD->Prop):Amm F t c x f set N=N (PS F t c x f set):=by
 unfold Amm PS
 simp only[Bg (K:=N)]
theorem Avf(c:Cra)(x:HeD)(o:Tup 9×Int)(N:Cra×HeD->Prop):Avd c x o N=N (XV c x o):=by
 unfold Avd XV
 simp only[Bg (K:=N)]
theorem Amo{F:Fs}{t:Int}{c:Cra}{x:HeD}{f:Fra}{N:Cra×HeD->Prop}(h:N (Gd F t (c,x) f)):Aau F t c x f N:=by
 obtain⟨k,s⟩:=f
 unfold Aau
 simp only[Ave,Avf]
 refine⟨fun e=>?_,fun e=>?_,fun e=>?_,fun e=>?_,fun n e=>?_⟩
 ·subst e;exact h
 ·subst e;exact h
 ·subst e;exact h
 ·subst e;exact h
 ·subst e
  have e:Gd F t (c,x) (((n+4:Nat):Int),s)=if ((n+4:Nat):Int)=16 then XV c x (F.oread (((n+4:Nat):Int),s))else(rejC c,x):=by
   unfold Gd
   rw[if_neg (by dsimp only;omega),if_neg (by dsimp only;omega),if_neg (by dsimp only;omega)]
  rw[e]at h
  have k:AE (!decide (((n+4:Nat):Int)=16)) (N (rejC c,x)) (N (XV c x (F.oread (((n+4:Nat):Int),s)))):=by
   rw[Ai3 (K:=N)]
   exact h
  cases decide (((n+4:Nat):Int)≥1)
  ·exact k
  ·exact k
def FkR(F:Fs)(t:Int)(sl:Value)(l:List (UInt8×List UInt8))(G:VQ->List Value->Xm->Prop):Prop:=∀(i:Int) (d:Nat->Value) (c:Cra) (x:HeD) (Q:VQ),G Q (fkF t i sl d) (fkM c x l)=
      (Kr 4 sl l/\116=116/\AE (decide (i<(l.length:Nat))) ((0<=i/\i.toNat<l.length)/\Kr 4 sl l/\some (cellsOf l)=some (cellsOf l)/\5=5/\116=116/\Aau F t c x (frL l i) (fnx t i sl l Q))
      (Q (.exit 0) (fkE t i (l.length:Nat) sl d) (fkM c x l)))
theorem Avg{F:Fs}{t:Int}{sl:Value}{l:List (UInt8×List UInt8)}{G:VQ->List Value->Xm->Prop}(hG:FkR F t sl l G)(hl:l.length<=5000)(hs:Kr 4 sl l)(Q:VQ)(rest:List (UInt8×List UInt8)):∀(pre:List (UInt8×List UInt8)),l=pre++rest->∀(d:Nat->Value) (s:Cra×HeD),
    (∀i d,Q (.exit 0) (fkE t i (l.length:Nat) sl d) (fkM ((rest.map GX).foldl (Gd F t) s).1 ((rest.map GX).foldl (Gd F t) s).2 l))->
    AS (rest.length+1) G Q (fkF t pre.length sl d) (fkM s.1 s.2 l):=by
 have hp:Ch 5 sl=true:=hs.ptr (by decide)
 induction rest with
 |nil=>
  intro pre e d s hQ
  have e1:l.length=pre.length:=by rw[e];simp
  rw[List.length_nil,AS,hG,decide_eq_false (by omega)]
  exact⟨hs,rfl,hQ _ d⟩
 | cons f rest ih=>
  intro pre e d s hQ
  have e1:l.length=pre.length+(rest.length+1):=by rw[e];simp
  rw[List.length_cons,AS,hG,decide_eq_true (by omega)]
  refine⟨hs,rfl,⟨by omega,by rw[Int.toNat_natCast];omega⟩,hs,rfl,rfl,rfl,Amo ⟨rfl,by rw[hp];rfl,fun d=>?_⟩⟩
  have hw:IntKind.i64.wrap ((pre.length:Int)+1)=((pre++[f]).length:Nat):=by
   rw[IntKind.wrap_i64,Zo,List.length_singleton]
   omega
  have hf:frL l (pre.length:Nat)=GX f:=by rw[e];exact Amf pre rest f
  rw[hw,hf]
  exact ih (pre++[f]) (by rw[e];simp) d (Gd F t s (GX f)) hQ
section
variable (F:Fs) (h:DsOk F)
theorem ADx(n:Nat)(t:Int)(sl:Value)(l:List (UInt8×List UInt8)):FkR F t sl l (Ao Zm (fkT F h) (fun _=>[]) n (fkO F h l) (fkL Zm)):=
 fun i d c x Q=>Amn F h n t i sl d l c x Q
def fkQ(l:List (UInt8×List UInt8))(n:Nat)(Q:VQ):VQ:=fun e vt m=>match e with
 | .normal=>Ao Zm (fkT F h) (fun _=>[]) n (fkO F h l) (fkZ Zm) Q vt m
 |e=>Q e vt m
def fkX(l:List (UInt8×List UInt8))(n:Nat)(t:Int)(Q:VQ)(sl:Value)(c:Cra):Prop:=
 116=116/\(Ch 5 sl&&true)=true/\∀d,Ao Zm (fkT F h) (fun _=>[]) n (fkO F h l) (fkB Zm) (fkQ F h l n Q) (fkF t 0 sl d) (fkM c zeroHeD l)
theorem Amp(n:Nat)(t:Int)(c:Cra)(b:ByteArray)(Q:VQ):
    Ao Zm (fkT F h) (fun _=>[]) n (fkO F h (scanL (c.2.2.1++b).data.toList).1) (An Zm 18) Q ((Ac cCra (Ac cI (Aa cS))).enc (c,t,b)++Zq ((Ba Zm 18).ntmps-((Ac cCra (Ac cI (Aa cS))).enc (c,t,b)).length) undef) []=
      (c.2.2.1.size+b.size<=5000/\4=4/\116=116/\∀sl,Kr 4 sl (scanL (c.2.2.1++b).data.toList).1->AE (decide (((scanL (c.2.2.1++b).data.toList).2.2:Nat)>(0:Int)))
        (fkX F h (scanL (c.2.2.1++b).data.toList).1 n t Q sl (rejC (Mn c (restOf (c.2.2.1++b).data.toList)))) (fkX F h (scanL (c.2.2.1++b).data.toList).1 n t Q sl (Mn c (restOf (c.2.2.1++b).data.toList)))):=by kernel_rfl
theorem ADy(n:Nat)(t i nn:Int)(sl:Value)(d:Nat->Value)(l:List (UInt8×List UInt8))(c:Cra)(x:HeD)(Post:Value->Prop):
    Ao Zm (fkT F h) (fun _=>[]) n (fkO F h l) (fkZ Zm) (Bz Zm (Ba Zm 18) (fun v _=>Post v)) (fkE t i nn sl d) (fkM c x l)=Post ((Au cCra MH).enc (c,x)):=by kernel_rfl
end
section
variable (F:Fs) (h:DsOk F)
theorem AJt(l:List (UInt8×List UInt8))(w:World):D5 Zm (fkO F h l) [] w [] [] (An Zm 18):=by
 refine CV (ns:=[(2,#[(opOf Zm 18 2 0),(opOf Zm 18 2 1),(opOf Zm 18 2 2),(opOf Zm 18 2 3),(opOf Zm 18 2 4),(opOf Zm 18 2 5),(opOf Zm 18 2 6),(opOf Zm 18 2 7),(opOf Zm 18 2 8),(opOf Zm 18 2 9),(opOf Zm 18 2 10),(opOf Zm 18 2 11)],false),(6,Cg Zm 18 6,false),(7,#[(opOf Zm 18 7 0),(opOf Zm 18 7 1),(opOf Zm 18 7 2),(opOf Zm 18 7 3)],false),(9,#[(opOf Zm 18 9 0),(opOf Zm 18 9 1),(opOf Zm 18 9 2),(opOf Zm 18 9 3),(opOf Zm 18 9 4),(opOf Zm 18 9 5)],false),(8,Cg Zm 18 8,false)]) (by kernel_rfl) ?_
 intro r hr
 rcases Zt.1 hr with rfl |hr
 ·intro R hR K Q bl vt m a w h r hK
  cases hR
  exact Vv (tC:=42) (tT:=9) (fn:=59) rfl (by kernel_rfl) (by kernel_rfl) rfl ⟨by kernel_rfl,by kernel_rfl,by kernel_rfl⟩ ⟨by kernel_rfl,by kernel_rfl,by kernel_rfl⟩ ⟨by kernel_rfl,by kernel_rfl,by kernel_rfl⟩ ⟨by kernel_rfl,by kernel_rfl,by kernel_rfl⟩ ⟨by kernel_rfl,by kernel_rfl,by kernel_rfl⟩ ⟨by kernel_rfl,by kernel_rfl,by kernel_rfl⟩ ⟨by kernel_rfl,by kernel_rfl,by kernel_rfl⟩ ⟨by kernel_rfl,by kernel_rfl,by kernel_rfl⟩ ⟨by kernel_rfl,by kernel_rfl,by kernel_rfl⟩ ⟨by kernel_rfl,by kernel_rfl,by kernel_rfl⟩ ⟨by kernel_rfl,by kernel_rfl,by kernel_rfl⟩ ⟨by kernel_rfl,by kernel_rfl,by kernel_rfl⟩ h r hK
 rcases Zt.1 hr with rfl |hr
 ·intro R hR K Q bl vt m a w h r hK
  cases hR
  exact By xmixA (by decide) h r hK
 rcases Zt.1 hr with rfl |hr
 ·intro R hR K Q bl vt m a w h r hK
  cases hR
  exact XS (tS:=104) (e:=99) (tI:=3) (by kernel_rfl) rfl ⟨by kernel_rfl,by kernel_rfl,by kernel_rfl⟩ ⟨by kernel_rfl,by kernel_rfl,by kernel_rfl⟩ ⟨by kernel_rfl,by kernel_rfl,by kernel_rfl⟩ ⟨by kernel_rfl,by kernel_rfl,by kernel_rfl⟩ h r hK
 rcases Zt.1 hr with rfl |hr
 ·intro R hR K Q bl vt m a w h r hK
  cases hR
  exact XT (tS:=104) (tF:=99) (z:=.agg #[.int .i64 0,.string ⟨#[]⟩]) (by kernel_rfl) (by kernel_rfl) (by kernel_rfl) (by kernel_rfl) rfl rfl ⟨by kernel_rfl,by kernel_rfl,by kernel_rfl⟩ ⟨by kernel_rfl,by kernel_rfl,by kernel_rfl⟩ ⟨by kernel_rfl,by kernel_rfl,by kernel_rfl⟩ ⟨by kernel_rfl,by kernel_rfl,by kernel_rfl⟩ ⟨by kernel_rfl,by kernel_rfl,by kernel_rfl⟩ ⟨by kernel_rfl,by kernel_rfl,by kernel_rfl⟩ h r hK
 rcases Zt.1 hr with rfl |hr
 ·intro R hR K Q bl vt m a w h r hK
  cases hR
  exact By xmixA (by decide) h r hK
 ·cases hr
theorem QS(h:DsOk F)(x:Cra×Int×ByteArray)(hs:x.1.2.2.1.size+x.2.2.size<=5000)(w:World)(hw:GW w):
    Calls Zm 18 ((Ac cCra (Ac cI (Aa cS))).enc x).toArray w fun e w'=>e=.returned ((Au cCra MH).enc (takeD F x.1 x.2.1 x.2.2))/\Below w.heap.size w w':=by
 obtain⟨c,t,b⟩:=x
 dsimp only at hs ⊢
 refine Gc (tbl:=fkT F h) (dirty:=fun _=>[]) (n:=(scanL (c.2.2.1++b).data.toList).1.length+1) (ov:=fkO F h (scanL (c.2.2.1++b).data.toList).1) xmixA (by kernel_rfl) (by kernel_rfl) (AJt F h _) ?_ w hw
 rw[Amp]
 have hL:(scanL (c.2.2.1++b).data.toList).1.length<=5000:=Nat.le_trans (Vs _) (by simpa [ByteArray.size_append]using hs)
 refine⟨hs,rfl,rfl,fun sl hsl=>?_⟩
 have hp:Ch 5 sl=true:=hsl.ptr (by decide)
 have key:∀c':Cra,c'=XP c (c.2.2.1++b).data.toList->fkX F h (scanL (c.2.2.1++b).data.toList).1 ((scanL (c.2.2.1++b).data.toList).1.length+1) t (Bz Zm (Ba Zm 18) (fun v _=>v=(Au cCra MH).enc (takeD F c t b))) sl c':=by
  intro c' hc
  refine⟨rfl,by rw[hp];rfl,fun d=>?_⟩
  refine Avg (ADx F h _ t sl _) hL hsl _ _ [] rfl d (c',zeroHeD) (fun i d=>?_)
  refine Eq.mpr (ADy F h _ t i _ sl d _ _ _ (fun v=>v=(Au cCra MH).enc (takeD F c t b))) ?_
  rw[hc]
  rfl
 unfold XP at key
 by_cases ho:((scanL (c.2.2.1++b).data.toList).2.2:Nat)>(0:Int)
 ·rw[decide_eq_true ho]
  exact key _ (if_pos ho).symm
 ·rw[decide_eq_false ho]
  exact key _ (if_neg ho).symm
end
def ren(rs:List Nat):Value->Value
 | .pointer (some a)=>.pointer (some {a with block:=rs.idxOf a.block})
 | .slice (some a) n c=>.slice (some {a with block:=rs.idxOf a.block}) n c
 |v=>v
def Amq(rs:List Nat):Value->Bool
 | .pointer (some a)=>decide (a.block∈rs)
 | .slice (some a) _ _=>decide (a.block∈rs)
 |_=>true
def Mo(rs:List Nat)(bl:Bl):Bl:=rs.map fun i=>(bl[i]?).join
theorem Aav{i:Nat}:∀{rs:List Nat},i∈rs->rs[rs.idxOf i]? =some i
 |[],h=>by cases h
 | r::rs,h=>by
  by_cases e:r=i
  ·subst e
   simp
  ·have hi:i∈rs:=by
    rcases Zt.1 h with h |h
    ·exact absurd h.symm e
    ·exact h
   have e':(r==i)=false:=by simpa using e
   rw[List.idxOf_cons,e']
   simpa using Aav hi
theorem QT{rs:List Nat}{bl:Bl}{i B:Nat}(h:bl[i]? =some (some B))(hi:i∈rs):(Mo rs bl)[rs.idxOf i]? =some (some B):=by
 have h1:rs[rs.idxOf i]? =some i:=Aav hi
 unfold Mo
 rw[Zu,h1]
 simp[h]
theorem Ks{rs:List Nat}{bl:Bl}{k B:Nat}(h:(Mo rs bl)[k]? =some (some B)):∃i,rs[k]? =some i/\bl[i]? =some (some B):=by
 unfold Mo at h
 rw[Zu]at h
 cases e:rs[k]? with
 |none=>rw[e]at h;cases h
 |some i=>
  rw[e]at h
  refine⟨i,rfl,?_⟩
  simp only[Zy,Option.some.injEq]at h
  cases e2:bl[i]? with
  |none=>rw[e2]at h;cases h
  |some x=>rw[e2]at h;simp only[Option.join_some]at h;rw[h]
theorem RV.ren{bl:Bl}{rs:List Nat}{v v':Value}(h:RV bl v v')(hp:Amq rs v=true):RV (Mo rs bl) (ren rs v) v':=by
 cases hi:isP v
 ·rw [h.plain hi]
  have e:Go.Proofs.YtoadcnhcfodkgaaGreatDoor.ren rs v=v:=by
   cases v<;>first
    |rfl
    |(rename_i a;cases a<;>first
     |rfl
     |cases hi)
    |(rename_i a n c;cases a<;>first
     |rfl
     |cases hi)
  rw[e]
  exact .same hi
 ·match v,h,hi,hp with
  | .pointer (some a),⟨B,h1,e⟩,_,hp=>exact⟨B,QT h1 (of_decide_eq_true hp),e⟩
  | .nilIface,h,_,_=>exact h
  | .slice (some a) _ _,⟨B,h1,e⟩,_,hp=>exact⟨B,QT h1 (of_decide_eq_true hp),e⟩
theorem RW.sel{bs:List Nat}{w0:World}{bl:Bl}{m:Xm}{w:World}(h:RW bs w0 bl m w){rs:List Nat}(hn:rs.Nodup):RW bs w0 (Mo rs bl) (rs.map fun i=>m.getD i []) w:=by
 have row:∀{k i:Nat} {l:List Value},rs[k]? =some i->m[i]? =some l->(rs.map fun i=>m.getD i [])[k]? =some l:=by
  intro k i l h1 h2
  rw[Zu,h1,Zy,Zn,h2]
  rfl
 refine⟨fun k B hk=>?_,fun i j B hi hj=>?_,fun k B hk=>?_,h.os,h.tape,h.output,h.size,h.block,h.gw⟩
 ·obtain⟨i,h1,h2⟩:=Ks hk
  obtain⟨l,h3,A⟩:=h.arr i B h2
  exact⟨l,row h1 h3,A⟩
 ·obtain⟨i',h1,h2⟩:=Ks hi
  obtain⟨j',h3,h4⟩:=Ks hj
  have e:=h.inj i' j' B h2 h4
  subst e
  have li:=(Zs.1 h1).1
  exact(List.getElem?_inj li hn).1 (h1.trans h3.symm)
 ·obtain⟨i,h1,h2⟩:=Ks hk
  exact(h.own i B h2).imp id (Or.imp id fun e=>row h1 e)
theorem FR.sel{bl:Bl}{vt:List Value}{tm:Array Value}(h:FR bl vt tm){n:Nat}{ks rs:List Nat}(hn:vt.length=n)(hp:(ks.all fun j=>Amq rs (vt.getD j undef))=true):
    FR (Mo rs bl) (Kl (ks.map fun j=>(j,Go.Proofs.YtoadcnhcfodkgaaGreatDoor.ren rs (vt.getD j undef))) (fun j=>vt.getD j undef) n) tm:=by
 refine⟨by unfold Kl;simp[h.len,hn],fun t=>?_⟩
 have h1:=h.rv t
 unfold Kl
 by_cases ht:t<n
 ·rw[Zn,Zu,List.getElem?_range ht]
  simp only[Zy,Option.getD_some,LA (fun j=>Go.Proofs.YtoadcnhcfodkgaaGreatDoor.ren rs (vt.getD j undef))]
  by_cases e:t∈ks
  ·rw[if_pos e]
   exact h1.ren (List.all_eq_true.1 hp t e)
  ·rw[if_neg e]
   exact h1.dim
 ·rw[Zn,List.getElem?_eq_none (by simp;omega)]
  rw[Zn,List.getElem?_eq_none (by omega)]at h1
  exact h1.ren rfl
def Ae5(vt:List Value):List Nat->List Nat
 |[]=>[]
 |j::ks=>match vt.getD j undef with
  | .pointer (some a)=>a.block::Ae5 vt ks
  |_=>Ae5 vt ks
def Avh:List Nat->Bool
 |[]=>true
 |x::xs=>!xs.elem x&&Avh xs
theorem Aaw:∀{l:List Nat},Avh l=true->l.Nodup
 |[],_=>List.nodup_nil
 |x::xs,h=>by
  unfold Avh at h
  rw[Bool.and_eq_true,Bool.not_eq_true']at h
  refine List.nodup_cons.2 ⟨fun e=>?_,Aaw h.2⟩
  rw[List.elem_eq_true_of_mem e]at h
  cases h.1
def AJu(ks:List Nat)(n:Nat)(K:List Value->Xm->Prop):List Value->Xm->Prop:=fun vt m=>
 vt.length=n/\Avh (Ae5 vt ks)=true/\(ks.all fun j=>Amq (Ae5 vt ks) (vt.getD j undef))=true/\∀d,K (Kl (ks.map fun j=>(j,ren (Ae5 vt ks) (vt.getD j undef))) d n) ((Ae5 vt ks).map fun i=>m.getD i [])
def Di(P:Program)(tbl:List (Ct P))(dirty:Nat->List Nat)(id:Nat)(ks:List Nat)(n:Nat)(ops:Array Oper)(draw:Bool)(K:List Value->Xm->Prop)(vt:List Value)(m:Xm):Prop:=
 Ed P tbl dirty id ops draw (AJu ks n K) vt m
section
variable {P:Program} {tbl:List (Ct P)} {bs:List Nat} {w0:World} {ds:List Deferred} {dirty:Nat->List Nat}
theorem SQ(hm:P.follows .mixedOrders=true){id:Nat}{ks:List Nat}{n:Nat}{ops:Array Oper}{draw:Bool}{K:List Value->Xm->Prop}{Q:Exit->Act->World->Prop}{bl:Bl}{vt:List Value}{m:Xm}{a:Act}{w:World}
    (h:Di P tbl dirty id ks n ops draw K vt m) (r:Rl bs w0 ds [] bl vt m a w) (hK:∀bl vt m a w,K vt m->Rl bs w0 ds [] bl vt m a w->Q .normal a w):(Code.region id ops draw).wp P Q a w:=by
 refine C8 hm (fun bl vt m a w hk hr=>?_) h r
 exact hK _ _ _ _ _ (hk.2.2.2 (fun j=>vt.getD j undef)) ⟨hr.F.sel hk.1 hk.2.2.1,hr.R.sel (Aaw hk.2.1),(fun k B hk=>by cases hk),by unfold Mo;rw[List.length_map,List.length_map],hr.defers⟩
end
section
variable (F:Fs) (T:Cra×Int×ByteArray->Cra×Hea)
def setDri(c:Cra)(d:Dri):Cra:=(c.1,c.2.1,c.2.2.1,c.2.2.2.1,c.2.2.2.2.1,c.2.2.2.2.2.1,d,c.2.2.2.2.2.2.2)
def setGue(c:Cra)(g:Tup 43):Cra:=(c.1,c.2.1,c.2.2.1,c.2.2.2.1,c.2.2.2.2.1,c.2.2.2.2.2.1,c.2.2.2.2.2.2.1,g,c.2.2.2.2.2.2.2.2)
def Ib(c:Cra)(t:Int)(p:Tup 6)(g:Tup 43):Cra:=(true,t,c.2.2.1,p,c.2.2.2.2.1,c.2.2.2.2.2.1,c.2.2.2.2.2.2.1,g,c.2.2.2.2.2.2.2.2)
def IT(c:Cra)(s:See)(x:Hea)(y:Sky)(t:Int):Cra×ByteArray:=(Ib c t (planW F c s x y).1 (planW F c s x y).2,GV F (Ib c t (planW F c s x y).1 (planW F c s x y).2))
def goW(c:Cra)(x:Hea)(t:Int):Cra×ByteArray:=
 if decide (c.2.2.2.1.1=2)then
  (if !(decW F c t x (skyW F c t)).1 then IT F (setGue c (Oi F c.2.2.2.2.2.2.2.1 (decW F c t x (skyW F c t)) (IntKind.i64.wrap (t-c.2.1)) x (skyW F c t)).1) (Oi F c.2.2.2.2.2.2.2.1 (decW F c t x (skyW F c t)) (IntKind.i64.wrap (t-c.2.1)) x (skyW F c t)).2 x (skyW F c t) t
  else IT F c (decW F c t x (skyW F c t)) x (skyW F c t) t)
 else IT F c (decW F c t x (skyW F c t)) x (skyW F c t) t
def Kt(c:Cra)(t:Int)(b:ByteArray):Cra×ByteArray:=goW F (setDri (T (c,t,b)).1 (driftW F (T (c,t,b)).1.2.2.2.2.2.2.1 (T (c,t,b)).2)) (T (c,t,b)).2 t
def Ot(c:Cra)(t:Int)(b:ByteArray):Cra×ByteArray:=
 if !F.right t then(c,noBytes)else if c.1 then(if decide (t<=c.2.1)then(c,noBytes)else Kt F T c t b)else Kt F T c t b
def goV(c:Cra)(x:Hea)(t:Int)(Post:Value->Prop):Prop:=
 AE (decide (c.2.2.2.1.1=2))
  (AE (!(decW F c t x (skyW F c t)).1) (PJ (Au cCra cS) Post (IT F (setGue c (Oi F c.2.2.2.2.2.2.2.1 (decW F c t x (skyW F c t)) (IntKind.i64.wrap (t-c.2.1)) x (skyW F c t)).1) (Oi F c.2.2.2.2.2.2.2.1 (decW F c t x (skyW F c t)) (IntKind.i64.wrap (t-c.2.1)) x (skyW F c t)).2 x (skyW F c t) t))
  (PJ (Au cCra cS) Post (IT F c (decW F c t x (skyW F c t)) x (skyW F c t) t)))
 (PJ (Au cCra cS) Post (IT F c (decW F c t x (skyW F c t)) x (skyW F c t) t))
theorem ADz(c:Cra)(x:Hea)(t:Int)(Post:Value->Prop):goV F c x t Post=PJ (Au cCra cS) Post (goW F c x t):=by
 unfold goV goW
 rw[Bg (K:=PJ (Au cCra cS) Post),Bg (K:=PJ (Au cCra cS) Post)]
theorem Avi(h:FsOk F)(x:Cra×Int×ByteArray)(y:Cra×Hea)(hT:∀w,GW w->Calls Zm 10 ((Ac cCra (Ac cI (Aa cS))).enc x).toArray w fun e w'=>e=.returned ((Au cCra DZ).enc y)/\Below w.heap.size w w')(w:World)(hw:GW w):
    Calls Zm 7 ((Ac cCra (Ac cI (Aa cS))).enc x).toArray w fun e w'=>e=.returned ((Au cCra cS).enc (Ot F (fun _=>y) x.1 x.2.1 x.2.2))/\Below w.heap.size w w':=by
 refine Bj (d:=Ac cCra (Ac cI (Aa cS))) (k:=Au cCra cS) (x:=x) (y:=Ot F (fun _=>y) x.1 x.2.1 x.2.2) (tbl:=[Auo F h,Aeo Zm 10 (Ac cCra (Ac cI (Aa cS))) (Au cCra DZ) x y (Ae Tryz.func10 (by kernel_rfl) (by kernel_rfl)) hT,Aeq F h,Auw F h,Aer F h,XJ F h,Aet F h,ADl F h]) (dirty:=fun _=>[]) (n:=4) xmixA Tryz.func7 rfl (fun Post hP=>?_) w hw
 refine Eq.mpr (β:=AE (!F.right x.2.1) (PJ (Au cCra cS) Post (x.1,noBytes)) (AE x.1.1 (AE (decide (x.2.1<=x.1.2.1)) (PJ (Au cCra cS) Post (x.1,noBytes)) ((Ac cCra (Ac cI (Aa cS))).enc x=(Ac cCra (Ac cI (Aa cS))).enc x/\goV F (setDri y.1 (driftW F y.1.2.2.2.2.2.2.1 y.2)) y.2 x.2.1 Post)) ((Ac cCra (Ac cI (Aa cS))).enc x=(Ac cCra (Ac cI (Aa cS))).enc x/\goV F (setDri y.1 (driftW F y.1.2.2.2.2.2.2.1 y.2)) y.2 x.2.1 Post))) (by kernel_rfl) ?_
 simp only[true_and,ADz]
 rw[Bg (K:=PJ (Au cCra cS) Post),Bg (K:=PJ (Au cCra cS) Post),Bg (K:=PJ (Au cCra cS) Post)]
 exact hP
end
section
variable (F:Fs) (h:DsOk F)
def dsT:List (Ct Zm):=
 [Aq Zm 17 _ F.right _ (Ae Tryz.func17 (by kernel_rfl) (by kernel_rfl)) h.right,
 Ak Zm 20 _ F.place _ (Ae Tryz.func20 (by kernel_rfl) (by kernel_rfl)) h.place,
 Ak Zm 21 _ F.dir _ (Ae Tryz.func21 (by kernel_rfl) (by kernel_rfl)) h.dir,
 Ak Zm 22 _ F.sky _ (Ae Tryz.func22 (by kernel_rfl) (by kernel_rfl)) h.sky,
 Ak Zm 23 _ F.norm _ (Ae Tryz.func23 (by kernel_rfl) (by kernel_rfl)) h.norm,
 Ak Zm 24 _ F.apart _ (Ae Tryz.func24 (by kernel_rfl) (by kernel_rfl)) h.apart,
 Ak Zm 25 _ F.shaded _ (Ae Tryz.func25 (by kernel_rfl) (by kernel_rfl)) h.shaded,
 Ak Zm 26 _ F.move _ (Ae Tryz.func26 (by kernel_rfl) (by kernel_rfl)) h.move,
 Ak Zm 27 _ F.meet _ (Ae Tryz.func27 (by kernel_rfl) (by kernel_rfl)) h.meet,
 Ak Zm 28 _ F.spread _ (Ae Tryz.func28 (by kernel_rfl) (by kernel_rfl)) h.spread,
 Ak Zm 30 _ F.att _ (Ae Tryz.func30 (by kernel_rfl) (by kernel_rfl)) h.att,
 Aq Zm 31 _ F.start _ (Ae Tryz.func31 (by kernel_rfl) (by kernel_rfl)) h.start,
 Ak Zm 19 _ F.bstep _ (Ae Tryz.func19 (by kernel_rfl) (by kernel_rfl)) h.bstep,
 Ak Zm 32 _ F.dip _ (Ae Tryz.func32 (by kernel_rfl) (by kernel_rfl)) h.dip,
 Aq Zm 29 _ F.next _ (Ae Tryz.func29 (by kernel_rfl) (by kernel_rfl)) h.next,
 Aq Zm 33 _ F.counts _ (Ae Tryz.func33 (by kernel_rfl) (by kernel_rfl)) h.counts,
 Aq Zm 34 _ F.write _ (Ae Tryz.func34 (by kernel_rfl) (by kernel_rfl)) h.write,
 Aq Zm 35 _ F.wrap _ (Ae Tryz.func35 (by kernel_rfl) (by kernel_rfl)) h.wrap]
def JK(x:Cra×Int×ByteArray)(y:Cra×HeD)(hY:∀w,GW w->Calls Zm 18 ((Ac cCra (Ac cI (Aa cS))).enc x).toArray w fun e w'=>e=.returned ((Au cCra MH).enc y)/\Below w.heap.size w w'):List (Ct Zm):=
 Aeo Zm 18 (Ac cCra (Ac cI (Aa cS))) (Au cCra MH) x y (Ae Tryz.func18 (by kernel_rfl) (by kernel_rfl)) hY::dsT F h
abbrev SeD:=Bool×Bool×Bool×Bool×Bool×Bool×Bool×Int
abbrev AD0:Dl SeD:=Ac cB (Ac cB (Ac cB (Ac cB (Ac cB (Ac cB (Ac cB (Aa cI)))))))
def q5:List Nat:=[1,3,6,7,8,9,10]
def q8:List Nat:=[1,3,6,7,8,9,10,11]
def q17:List Nat:=[1,3,6,7,8,9,10,11,12,13,15]
def q21:List Nat:=[1,3,6,7,8,9,10,11,12,13,15,16,17,18]
def q30:List Nat:=[1,3,6,7,10,11,12,13,15,16,17,174]
def q35:List Nat:=[1,3,6,7,10,11,12,15,16,17,194]
def q37:List Nat:=[1,3,6,7,10,12,15,16,17,211]
def q50:List Nat:=[1,3,6,7,12,15,16,30]
def q51:List Nat:=[1,3,6,7,12,15,30]
def q54:List Nat:=[1,3,6,7,31,32]
def q58:List Nat:=[1,3,6,7,299]
def q60:List Nat:=[1,3,6,7]
def Hd(T:List (Ct Zm)):Ov:=fun id=>match id with
 |5=>some (Di Zm T (fun _=>[]) 5 q5 353)
 |8=>some (Di Zm T (fun _=>[]) 8 q8 353)
 |17=>some (Di Zm T (fun _=>[]) 17 q17 353)
 |21=>some (Di Zm T (fun _=>[]) 21 q21 353)
 |23=>some (Di Zm T (fun _=>[]) 23 q21 353)
 |30=>some (Di Zm T (fun _=>[]) 30 q30 353)
 |35=>some (Di Zm T (fun _=>[]) 35 q35 353)
 |37=>some (Di Zm T (fun _=>[]) 37 q37 353)
 |50=>some (Di Zm T (fun _=>[]) 50 q50 353)
 |51=>some (Di Zm T (fun _=>[]) 51 q51 353)
 |54=>some (Di Zm T (fun _=>[]) 54 q54 353)
 |58=>some (Di Zm T (fun _=>[]) 58 q58 353)
 |60=>some (Di Zm T (fun _=>[]) 60 q60 353)
 |_=>none
def QU(P:Program)(n:Nat):Code:=Bd (Zq n true) (An P 8)
def PT(P:Program)(n:Nat):Code:=Bd (Zq n true++[false,true]) (An P 8)
def noS:ByteArray:=⟨#[]⟩
def f5(t was:Int)(on:Bool)(d:Nat->Value):List Value:=Kl [(1,.int .i64 t),(3,ptr 0),(6,ptr 1),(7,.string noS),(8,.int .i64 was),(9,.bool on),(10,ptr 2)] d 353
def f8(t was:Int)(on:Bool)(d:Nat->Value):List Value:=Kl [(1,.int .i64 t),(3,ptr 0),(6,ptr 1),(7,.string noS),(8,.int .i64 was),(9,.bool on),(10,ptr 2),(11,ptr 3)] d 353
def f17(t was:Int)(on kn:Bool)(d:Nat->Value):List Value:=Kl [(1,.int .i64 t),(3,ptr 0),(6,ptr 1),(7,.string noS),(8,.int .i64 was),(9,.bool on),(10,ptr 2),(11,ptr 3),(12,ptr 4),(13,.bool kn),(15,ptr 5)] d 353
def f21(t was:Int)(on kn:Bool)(ms i:Int)(d:Nat->Value):List Value:=Kl [(1,.int .i64 t),(3,ptr 0),(6,ptr 1),(7,.string noS),(8,.int .i64 was),(9,.bool on),(10,ptr 2),(11,ptr 3),(12,ptr 4),(13,.bool kn),(15,ptr 5),(16,ptr 6),(17,.int .i64 ms),(18,.int .i64 i)] d 353
def m5(c:Cra)(x:HeD):Xm:=[C5.enc c,C5.enc zeroCra,Vw.enc x]
def m8(c:Cra)(x:HeD)(p:Tup 3):Xm:=[C5.enc c,C5.enc zeroCra,Vw.enc x,(dT 3).enc p]
def m17(c:Cra)(x:HeD)(p:Tup 3)(s b:Tup 6):Xm:=[C5.enc c,C5.enc zeroCra,Vw.enc x,(dT 3).enc p,(dT 6).enc s,(dT 6).enc b]
def m21(c:Cra)(x:HeD)(p:Tup 3)(s b:Tup 6)(e:SeD):Xm:=[C5.enc c,C5.enc zeroCra,Vw.enc x,(dT 3).enc p,(dT 6).enc s,(dT 6).enc b,AD0.enc e]
def IU(K:(Nat->Value)->Prop):Prop:=353=353/\true=true/\true=true/\∀d,K d
variable (T:List (Ct Zm)) {x0:Cra×Int×ByteArray} {y0:Cra×HeD} {hY:∀w,GW w->Calls Zm 18 ((Ac cCra (Ac cI (Aa cS))).enc x0).toArray w fun e w'=>e=.returned ((Au cCra MH).enc y0)/\Below w.heap.size w w'}
def r3D(x:HeD):Tup 5:=x.2.2.2.2.2.2.2.1
theorem AOf(hT:T=JK F h x0 y0 hY)(n:Nat)(t was:Int)(on:Bool)(d:Nat->Value)(c:Cra)(x:HeD)(Q:VQ):
    Ao Zm T (fun _=>[]) n (Hd T) (QU Zm 5) Q (f5 t was on d) (m5 c x)=
      AE x.2.2.2.1 (IU fun d=>Ao Zm T (fun _=>[]) n (Hd T) (QU Zm 7) Q (f8 t was on d) (m8 (setDri c (F.bstep false (c.2.2.2.2.2.2.1,(r3D x).2.2,(r3D x).2.1)).1) x (0,0,0,())))
      (IU fun d=>Ao Zm T (fun _=>[]) n (Hd T) (QU Zm 7) Q (f8 t was on d) (m8 c x (0,0,0,()))):=by
 subst hT
 kernel_rfl
def PU(c:Cra)(t:Int):Bool×Tup 3×Tup 6:=
 (!(F.sky (F.dir (F.place false (c.2.2.2.2.2.1,t)).2 t).2 ((F.place false (c.2.2.2.2.2.1,t)).1,t)).2,(F.place false (c.2.2.2.2.2.1,t)).1,Aan (F.dir (F.place false (c.2.2.2.2.2.1,t)).2 t).1 (F.sky (F.dir (F.place false (c.2.2.2.2.2.1,t)).2 t).2 ((F.place false (c.2.2.2.2.2.1,t)).1,t)).1)
def XW(x:HeD):Tup 6:=Aan x.2.2.2.2.2.2.1.2.2 x.2.2.2.2.2.2.2.1.2.2
theorem AOg(hT:T=JK F h x0 y0 hY)(n:Nat)(t was:Int)(on:Bool)(d:Nat->Value)(c:Cra)(x:HeD)(Q:VQ):
    Ao Zm T (fun _=>[]) n (Hd T) (QU Zm 7) Q (f8 t was on d) (m8 c x (0,0,0,()))=
      AE c.2.2.2.2.1 (IU fun d=>Ao Zm T (fun _=>[]) n (Hd T) (QU Zm 11) Q (f17 t was on (PU F c t).1 d) (m17 c x (PU F c t).2.1 (PU F c t).2.2 (XW x)))
      (IU fun d=>Ao Zm T (fun _=>[]) n (Hd T) (QU Zm 11) Q (f17 t was on false d) (m17 c x (0,0,0,()) (0,0,0,0,0,0,()) (XW x))):=by
 subst hT
 kernel_rfl
def seqQ(n k:Nat)(Q:VQ):VQ:=fun e vt m=>match e with
 | .normal=>Ao Zm T (fun _=>[]) n (Hd T) (QU Zm k) Q vt m
 |e=>Q e vt m
def XX(x:HeD):SeD:=(true,x.2.1,false,false,false,false,false,x.2.2.2.2.2.2.2.2)
theorem AOh(n:Nat)(t was:Int)(on kn:Bool)(d:Nat->Value)(c:Cra)(x:HeD)(p:Tup 3)(s b:Tup 6)(Q:VQ):
    Ao Zm T (fun _=>[]) n (Hd T) (QU Zm 11) Q (f17 t was on kn d) (m17 c x p s b)=
      IU fun d=>Ao Zm T (fun _=>[]) n (Hd T) (PT Zm 14) (seqQ T n 15 Q) (f21 t was on kn 0 10 d) (m21 c x p s b (XX x)):=by
 kernel_rfl
def dsL(P:Program):Code:=Bd [false,false] (PT P 14)
def Amr(t was:Int)(on kn:Bool)(ms i:Int)(d:Nat->Value):List Value:=vset (((f21 t was on kn ms i d).set 124 (.int .i64 i)).set 125 (.bool (decide (i<=10000)))) (.tmp 125) false
def Ou(e:SeD)(g:Bool):SeD:=(g,e.2)
def dnx(t was:Int)(on kn:Bool)(i:Int)(c:Cra)(x:HeD)(p:Tup 3)(s b:Tup 6)(Q:VQ)(e:SeD)(ms:Int):Prop:=
 IU fun d=>Q .normal (f21 t was on kn ms (IntKind.i64.wrap (i+1)) d) (m21 c x p s b e)
theorem Ams(n:Nat)(t was:Int)(on kn:Bool)(ms i:Int)(d:Nat->Value)(c:Cra)(x:HeD)(p:Tup 3)(s b:Tup 6)(e:SeD)(Q:VQ):
    Ao Zm T (fun _=>[]) n (Hd T) (dsL Zm) Q (f21 t was on kn ms i d) (m21 c x p s b e)=
      AE (decide (i<=10000)) (AE on (AE (decide (was<=IntKind.i64.wrap (t-i))) (AE (decide (IntKind.i64.wrap (was+i)=t)) (dnx t was on kn i c x p s b Q (Ou e false) i) (dnx t was on kn i c x p s b Q e ms)) (dnx t was on kn i c x p s b Q e ms)) (dnx t was on kn i c x p s b Q e ms))
      (Q (.exit 0) (Amr t was on kn ms i d) (m21 c x p s b e)):=by
 kernel_rfl
end
def f30(t ms:Int)(kn b:Bool)(d:Nat->Value):List Value:=Kl [(1,.int .i64 t),(3,ptr 0),(6,ptr 1),(7,.string noS),(10,ptr 2),(11,ptr 3),(12,ptr 4),(13,.bool kn),(15,ptr 5),(16,ptr 6),(17,.int .i64 ms),(174,.bool b)] d 353
def f35(t ms:Int)(kn:Bool)(d:Nat->Value):List Value:=Kl [(1,.int .i64 t),(3,ptr 0),(6,ptr 1),(7,.string noS),(10,ptr 2),(11,ptr 3),(12,ptr 4),(15,ptr 5),(16,ptr 6),(17,.int .i64 ms),(194,.bool kn)] d 353
def f37(t ms:Int)(b:Bool)(d:Nat->Value):List Value:=Kl [(1,.int .i64 t),(3,ptr 0),(6,ptr 1),(7,.string noS),(10,ptr 2),(12,ptr 3),(15,ptr 4),(16,ptr 5),(17,.int .i64 ms),(211,.bool b)] d 353
def f50(t md:Int)(d:Nat->Value):List Value:=Kl [(1,.int .i64 t),(3,ptr 0),(6,ptr 1),(7,.string noS),(12,ptr 2),(15,ptr 3),(16,ptr 4),(30,.int .i64 md)] d 353
def f58(t:Int)(b:Bool)(d:Nat->Value):List Value:=Kl [(1,.int .i64 t),(3,ptr 0),(6,ptr 1),(7,.string noS),(299,.bool b)] d 353
def f60(t:Int)(d:Nat->Value):List Value:=Kl [(1,.int .i64 t),(3,ptr 0),(6,ptr 1),(7,.string noS)] d 353
def m37(c:Cra)(x:HeD)(s b:Tup 6)(e:SeD):Xm:=[C5.enc c,C5.enc zeroCra,Vw.enc x,(dT 6).enc s,(dT 6).enc b,AD0.enc e]
def m50(c:Cra)(s b:Tup 6)(e:SeD):Xm:=[C5.enc c,C5.enc zeroCra,(dT 6).enc s,(dT 6).enc b,AD0.enc e]
def m58(c:Cra):Xm:=[C5.enc c,C5.enc zeroCra]
def r1D(x:HeD):Tup 5:=x.2.2.2.2.2.1
def M7(e:SeD)(b:Bool):SeD:=(e.1,e.2.1,b,e.2.2.2)
def M8(e:SeD)(b:Bool):SeD:=(e.1,e.2.1,e.2.2.1,b,e.2.2.2.2)
def Amt(e:SeD)(b:Bool):SeD:=(e.1,e.2.1,e.2.2.1,e.2.2.2.1,b,e.2.2.2.2.2)
def Ow(e:SeD)(b:Bool):SeD:=(e.1,e.2.1,e.2.2.1,e.2.2.2.1,e.2.2.2.2.1,b,e.2.2.2.2.2.2)
def FD(e:SeD)(b:Bool):SeD:=(e.1,e.2.1,e.2.2.1,e.2.2.2.1,e.2.2.2.2.1,e.2.2.2.2.2.1,b,e.2.2.2.2.2.2.2)
def Cv(c:Cra)(p:Tup 6):Cra:=(c.1,c.2.1,c.2.2.1,p,c.2.2.2.2)
def I2(c:Cra):Cra:=(true,c.2)
def AV(c:Cra)(t:Int):Cra:=(c.1,t,c.2.2)
section
variable (F:Fs) (h:DsOk F) (T:List (Ct Zm)) (n:Nat) (Q:VQ) {x0:Cra×Int×ByteArray} {y0:Cra×HeD} {hY:∀w,GW w->Calls Zm 18 ((Ac cCra (Ac cI (Aa cS))).enc x0).toArray w fun e w'=>e=.returned ((Au cCra MH).enc y0)/\Below w.heap.size w w'}
def c30(t ms:Int)(kn:Bool)(c:Cra)(x:HeD)(p:Tup 3)(s b:Tup 6)(e:SeD)(v:Bool):Prop:=IU fun d=>Ao Zm T (fun _=>[]) n (Hd T) (PT Zm 16) (seqQ T n 17 Q) (f30 t ms kn v d) (m21 c x p s b e)
def g30(t ms:Int)(kn:Bool)(c:Cra)(x:HeD)(p:Tup 3)(s b:Tup 6)(e:SeD):Prop:=
 AE kn (AE x.2.2.1 (c30 T n Q t ms kn c x p s b e x.2.2.2.1) (c30 T n Q t ms kn c x p s b e false)) (c30 T n Q t ms kn c x p s b e false)
theorem AOi(hT:T=JK F h x0 y0 hY)(t was:Int)(on kn:Bool)(ms i:Int)(d:Nat->Value)(c:Cra)(x:HeD)(p:Tup 3)(s b:Tup 6)(e:SeD):
    Ao Zm T (fun _=>[]) n (Hd T) (QU Zm 15) Q (Amr t was on kn ms i d) (m21 c x p s b e)=
      AE e.2.1 (AE (decide ((F.norm false (r1D x).2.2).1<=54975581388)) (g30 T n Q t ms kn c x p s b (M7 e (!(F.norm false (r1D x).2.2).2))) (g30 T n Q t ms kn c x p s b (M7 e false))) (g30 T n Q t ms kn c x p s b e):=by
 subst hT
 kernel_rfl
def c35(t ms:Int)(kn:Bool)(c:Cra)(x:HeD)(p:Tup 3)(s b:Tup 6)(e:SeD):Prop:=IU fun d=>Ao Zm T (fun _=>[]) n (Hd T) (PT Zm 17) (seqQ T n 18 Q) (f35 t ms kn d) (m21 c x p s b e)
theorem AOj(hT:T=JK F h x0 y0 hY)(t ms:Int)(kn v:Bool)(d:Nat->Value)(c:Cra)(x:HeD)(p:Tup 3)(s b:Tup 6)(e:SeD):
    Ao Zm T (fun _=>[]) n (Hd T) (PT Zm 16) (seqQ T n 17 Q) (f30 t ms kn v d) (m21 c x p s b e)=
      AE v (AE (F.apart false (Jn s,PN s)).1 (c35 T n Q t ms kn c x p s b (M8 e (F.apart (F.apart false (Jn s,PN s)).2 (Jn b,PN b)).1)) (c35 T n Q t ms kn c x p s b (M8 e false))) (c35 T n Q t ms kn c x p s b e):=by
 subst hT
 kernel_rfl
def c37(t ms:Int)(c:Cra)(x:HeD)(s b:Tup 6)(e:SeD)(v:Bool):Prop:=IU fun d=>Ao Zm T (fun _=>[]) n (Hd T) (PT Zm 18) (seqQ T n 19 Q) (f37 t ms v d) (m37 c x s b e)
def g37(t ms:Int)(c:Cra)(x:HeD)(s b:Tup 6)(e:SeD):Prop:=AE (decide (c.2.2.2.1.1=2)) (c37 T n Q t ms c x s b e (!e.1)) (c37 T n Q t ms c x s b e false)
theorem AOk(hT:T=JK F h x0 y0 hY)(t ms:Int)(kn:Bool)(d:Nat->Value)(c:Cra)(x:HeD)(p:Tup 3)(s b:Tup 6)(e:SeD):
    Ao Zm T (fun _=>[]) n (Hd T) (PT Zm 17) (seqQ T n 18 Q) (f35 t ms kn d) (m21 c x p s b e)=
      AE kn (g37 T n Q t ms c x s b (Amt e (!(F.shaded false (p,Jn s)).1))) (g37 T n Q t ms c x s b e):=by
 subst hT
 kernel_rfl
def c50(t:Int)(c:Cra)(s b:Tup 6)(e:SeD):Prop:=IU fun d=>Ao Zm T (fun _=>[]) n (Hd T) (QU Zm 20) Q (f50 t c.2.2.2.1.1 d) (m50 c s b e)
def Amu(t:Int)(c:Cra)(s b:Tup 6)(e:SeD)(g:Tup 43)(fl:Bool):Prop:=
 AE (F.spread fl g).2 (c50 T n Q t (setGue c g) s b (Ow e true)) (c50 T n Q t (setGue c g) s b (Ow e (decide ((F.spread fl g).1>274877906944))))
def Avk(t:Int)(c:Cra)(s b:Tup 6)(e:SeD)(r:Tup 43×Bool):Prop:=
 AE e.2.2.2.1 (AE e.2.2.2.2.1 (Amu F T n Q t c s b (FD e (F.meet r.2 (r.1,s,b)).1.2.2) (F.meet r.2 (r.1,s,b)).1.1 (F.meet r.2 (r.1,s,b)).2) (Amu F T n Q t c s b e r.1 r.2)) (Amu F T n Q t c s b e r.1 r.2)
theorem AOl(hT:T=JK F h x0 y0 hY)(t ms:Int)(v:Bool)(d:Nat->Value)(c:Cra)(x:HeD)(s b:Tup 6)(e:SeD):
    Ao Zm T (fun _=>[]) n (Hd T) (PT Zm 18) (seqQ T n 19 Q) (f37 t ms v d) (m37 c x s b e)=
      AE v (AE e.2.1 (Avk F T n Q t c s b e (F.move false (c.2.2.2.2.2.2.2.1,(r1D x).2.2,ms))) (Avk F T n Q t c s b e (F.move false (c.2.2.2.2.2.2.2.1,Alx c.2.2.2.2.2.2.2.1,ms)))) (c50 T n Q t c s b e):=by
 subst hT
 kernel_rfl
end
section
variable (F:Fs) (h:DsOk F) (T:List (Ct Zm)) (n:Nat) (Q:VQ) {x0:Cra×Int×ByteArray} {y0:Cra×HeD} {hY:∀w,GW w->Calls Zm 18 ((Ac cCra (Ac cI (Aa cS))).enc x0).toArray w fun e w'=>e=.returned ((Au cCra MH).enc y0)/\Below w.heap.size w w'}
def c58(t:Int)(c:Cra):Prop:=IU fun d=>Ao Zm T (fun _=>[]) n (Hd T) (PT Zm 22) (seqQ T n 23 Q) (f58 t (!decide (c.2.2.2.1.1=2)) d) (m58 c)
def AJ0:Code->Code
 | .cond _ x _=>x
 |c=>c
def dsE(P:Program):Code:=Bd [true,true] (AJ0 (Bd (Zq 21 true++[false,true]) (An P 8)))
def f54(t:Int)(d:Nat->Value):List Value:=Kl [(1,.int .i64 t),(3,ptr 0),(6,ptr 1),(7,.string noS),(31,ptr 2),(32,ptr 3)] d 353
def m54(c:Cra)(fl:Bool)(q:Tup 4):Xm:=[C5.enc c,C5.enc zeroCra,[.bool fl],(dT 4).enc q]
def c54(t:Int)(c:Cra)(a:Tup 4×Bool):Prop:=IU fun d=>Ao Zm T (fun _=>[]) n (Hd T) (dsE Zm) (seqQ T n 22 Q) (f54 t d) (m54 c a.2 a.1)
def AD1(t:Int)(c:Cra)(a:Tup 4×Bool):Prop:=
 AE a.2 (c58 T n Q t (Cv (setGue c (F.start a.1)) (1,0,0,0,0,XG c.2.2.2.1.2.2.2.2.2.1,()))) (c58 T n Q t (setGue c (F.start a.1)))
def f51(t md:Int)(d:Nat->Value):List Value:=Kl [(1,.int .i64 t),(3,ptr 0),(6,ptr 1),(7,.string noS),(12,ptr 2),(15,ptr 3),(30,.int .i64 md)] d 353
def m51(c:Cra)(s b:Tup 6):Xm:=[C5.enc c,C5.enc zeroCra,(dT 6).enc s,(dT 6).enc b]
def c51(t md:Int)(c:Cra)(s b:Tup 6):Prop:=IU fun d=>Ao Zm T (fun _=>[]) n (Hd T) (QU Zm 21) Q (f51 t md d) (m51 c s b)
theorem AOn(hT:T=JK F h x0 y0 hY)(t md:Int)(d:Nat->Value)(c:Cra)(s b:Tup 6)(e:SeD):
    Ao Zm T (fun _=>[]) n (Hd T) (QU Zm 20) Q (f50 t md d) (m50 c s b e)=c51 T n Q t md (Cv c (F.next (c.2.2.2.1,e))) s b:=by
 subst hT
 kernel_rfl
theorem AJ1(hT:T=JK F h x0 y0 hY)(t md:Int)(d:Nat->Value)(c:Cra)(s b:Tup 6):
    Ao Zm T (fun _=>[]) n (Hd T) (QU Zm 21) Q (f51 t md d) (m51 c s b)=
      AE (decide (c.2.2.2.1.1=2)) (AE (!decide (md=2)) (c54 T n Q t c (F.att false (s,b))) (c58 T n Q t c)) (c58 T n Q t c):=by
 subst hT
 kernel_rfl
theorem AJ2(hT:T=JK F h x0 y0 hY)(t:Int)(d:Nat->Value)(c:Cra)(a:Tup 4×Bool):
    Ao Zm T (fun _=>[]) n (Hd T) (dsE Zm) (seqQ T n 22 Q) (f54 t d) (m54 c a.2 a.1)=AD1 F T n Q t c a:=by
 subst hT
 kernel_rfl
def c60(t:Int)(c:Cra):Prop:=IU fun d=>Ao Zm T (fun _=>[]) n (Hd T) (QU Zm 24) Q (f60 t d) (m58 (I2 c))
theorem AJ3(t:Int)(v:Bool)(d:Nat->Value)(c:Cra):
    Ao Zm T (fun _=>[]) n (Hd T) (PT Zm 22) (seqQ T n 23 Q) (f58 t v d) (m58 c)=AE v (c60 T n Q t (setGue c Ml)) (c60 T n Q t c):=by
 kernel_rfl
end
section
variable (F:Fs) (h:DsOk F) (T:List (Ct Zm)) (n:Nat) {x0:Cra×Int×ByteArray} {y0:Cra×HeD} {hY:∀w,GW w->Calls Zm 18 ((Ac cCra (Ac cI (Aa cS))).enc x0).toArray w fun e w'=>e=.returned ((Au cCra MH).enc y0)/\Below w.heap.size w w'}
def QV(c:Cra)(m:Tup 3):ByteArray:=(F.wrap (F.write (Aeu c (F.counts (q4T c.2.2.2.2.2.2.2.1,m)))).1).1
theorem AJ4(hT:T=JK F h x0 y0 hY)(t:Int)(d:Nat->Value)(c:Cra)(Post:Value->Prop):
    Ao Zm T (fun _=>[]) n (Hd T) (QU Zm 24) (Bz Zm (Ba Zm 8) (fun v _=>Post v)) (f60 t d) (m58 c)=
      AE (decide (c.2.2.2.1.1=0)) (PJ (Au cCra cS) Post (AV c t,QV F (AV c t) (F.dip false c.2.2.2.2.2.2.1).1)) (PJ (Au cCra cS) Post (AV c t,QV F (AV c t) Aly)):=by
 subst hT
 kernel_rfl
def c5(Q:VQ)(x:Cra×Int×ByteArray)(y:Cra×HeD):Prop:=(Ac cCra (Ac cI (Aa cS))).enc x=(Ac cCra (Ac cI (Aa cS))).enc x/\IU fun d=>Ao Zm T (fun _=>[]) n (Hd T) (QU Zm 5) Q (f5 x.2.1 x.1.2.1 x.1.1 d) (m5 y.1 y.2)
theorem AOo(hT:T=JK F h x0 y0 hY)(Post:Value->Prop):
    Ao Zm T (fun _=>[]) n (Hd T) (An Zm 8) (Bz Zm (Ba Zm 8) (fun v _=>Post v)) ((Ac cCra (Ac cI (Aa cS))).enc x0++Zq ((Ba Zm 8).ntmps-((Ac cCra (Ac cI (Aa cS))).enc x0).length) undef) []=
      AE (!F.right x0.2.1) (PJ (Au cCra cS) Post (x0.1,noBytes)) (AE x0.1.1 (AE (decide (x0.2.1<=x0.1.2.1)) (PJ (Au cCra cS) Post (x0.1,noBytes)) (c5 T n (Bz Zm (Ba Zm 8) (fun v _=>Post v)) x0 y0)) (c5 T n (Bz Zm (Ba Zm 8) (fun v _=>Post v)) x0 y0)):=by
 subst hT
 kernel_rfl
end
theorem D6{P:Prop}:IU (fun _=>P)=P:=propext ⟨fun h=>h.2.2.2 (fun _=>undef),fun h=>⟨rfl,rfl,rfl,fun _=>h⟩⟩
section
variable (F:Fs)
def e60(c:Cra)(t:Int):Cra×ByteArray:=if c.2.2.2.1.1=0 then(AV c t,QV F (AV c t) (F.dip false c.2.2.2.2.2.2.1).1)else(AV c t,QV F (AV c t) Aly)
def e58(c:Cra)(t:Int):Cra×ByteArray:=if !decide (c.2.2.2.1.1=2)then e60 F (I2 (setGue c Ml)) t else e60 F (I2 c) t
def e54(c:Cra)(t:Int)(a:Tup 4×Bool):Cra×ByteArray:=if a.2 then e58 F (Cv (setGue c (F.start a.1)) (1,0,0,0,0,XG c.2.2.2.1.2.2.2.2.2.1,())) t else e58 F (setGue c (F.start a.1)) t
def e51(c:Cra)(t md:Int)(s b:Tup 6):Cra×ByteArray:=if c.2.2.2.1.1=2 then(if !decide (md=2)then e54 F c t (F.att false (s,b))else e58 F c t)else e58 F c t
def e50(c:Cra)(t:Int)(s b:Tup 6)(e:SeD):Cra×ByteArray:=e51 F (Cv c (F.next (c.2.2.2.1,e))) t c.2.2.2.1.1 s b
def XY(c:Cra)(t:Int)(s b:Tup 6)(e:SeD)(g:Tup 43)(fl:Bool):Cra×ByteArray:=if (F.spread fl g).2 then e50 F (setGue c g) t s b (Ow e true)else e50 F (setGue c g) t s b (Ow e (decide ((F.spread fl g).1>274877906944)))
def Ae6(c:Cra)(t:Int)(s b:Tup 6)(e:SeD)(r:Tup 43×Bool):Cra×ByteArray:=
 if e.2.2.2.1 then(if e.2.2.2.2.1 then XY F c t s b (FD e (F.meet r.2 (r.1,s,b)).1.2.2) (F.meet r.2 (r.1,s,b)).1.1 (F.meet r.2 (r.1,s,b)).2 else XY F c t s b e r.1 r.2)else XY F c t s b e r.1 r.2
def e37(c:Cra)(t ms:Int)(x:HeD)(s b:Tup 6)(e:SeD)(v:Bool):Cra×ByteArray:=
 if v then(if e.2.1 then Ae6 F c t s b e (F.move false (c.2.2.2.2.2.2.2.1,(r1D x).2.2,ms))else Ae6 F c t s b e (F.move false (c.2.2.2.2.2.2.2.1,Alx c.2.2.2.2.2.2.2.1,ms)))else e50 F c t s b e
def eG(c:Cra)(t ms:Int)(x:HeD)(s b:Tup 6)(e:SeD):Cra×ByteArray:=if c.2.2.2.1.1=2 then e37 F c t ms x s b e (!e.1)else e37 F c t ms x s b e false
def e35(c:Cra)(t ms:Int)(kn:Bool)(x:HeD)(p:Tup 3)(s b:Tup 6)(e:SeD):Cra×ByteArray:=if kn then eG F c t ms x s b (Amt e (!(F.shaded false (p,Jn s)).1))else eG F c t ms x s b e
def e30(c:Cra)(t ms:Int)(kn:Bool)(x:HeD)(p:Tup 3)(s b:Tup 6)(e:SeD)(v:Bool):Cra×ByteArray:=
 if v then(if (F.apart false (Jn s,PN s)).1 then e35 F c t ms kn x p s b (M8 e (F.apart (F.apart false (Jn s,PN s)).2 (Jn b,PN b)).1)else e35 F c t ms kn x p s b (M8 e false))else e35 F c t ms kn x p s b e
def eP(c:Cra)(t ms:Int)(kn:Bool)(x:HeD)(p:Tup 3)(s b:Tup 6)(e:SeD):Cra×ByteArray:=
 if kn then(if x.2.2.1 then e30 F c t ms kn x p s b e x.2.2.2.1 else e30 F c t ms kn x p s b e false)else e30 F c t ms kn x p s b e false
def e27(c:Cra)(t ms:Int)(kn:Bool)(x:HeD)(p:Tup 3)(s b:Tup 6)(e:SeD):Cra×ByteArray:=
 if e.2.1 then(if (F.norm false (r1D x).2.2).1<=54975581388 then eP F c t ms kn x p s b (M7 e (!(F.norm false (r1D x).2.2).2))else eP F c t ms kn x p s b (M7 e false))else eP F c t ms kn x p s b e
def SR(was t:Int)(on:Bool)(e:SeD):Nat->SeD×Int
 |0=>(e,0)
 |c+1=>if on then(if was<=IntKind.i64.wrap (t-(10+(c:Int)))then(if IntKind.i64.wrap (was+(10+(c:Int)))=t then(Ou (SR was t on e c).1 false,10+(c:Int))else SR was t on e c)else SR was t on e c)else SR was t on e c
def e17(c:Cra)(t was:Int)(on kn:Bool)(x:HeD)(p:Tup 3)(s b:Tup 6):Cra×ByteArray:=e27 F c t (SR was t on (XX x) 9991).2 kn x p s b (SR was t on (XX x) 9991).1
def e8(c:Cra)(t was:Int)(on:Bool)(x:HeD):Cra×ByteArray:=if c.2.2.2.2.1 then e17 F c t was on (PU F c t).1 x (PU F c t).2.1 (PU F c t).2.2 (XW x)else e17 F c t was on false x (0,0,0,()) (0,0,0,0,0,0,()) (XW x)
def e5(c:Cra)(t was:Int)(on:Bool)(x:HeD):Cra×ByteArray:=if x.2.2.2.1 then e8 F (setDri c (F.bstep false (c.2.2.2.2.2.2.1,(r3D x).2.2,(r3D x).2.1)).1) t was on x else e8 F c t was on x
def Ku(c:Cra)(t:Int)(y:Cra×HeD):Cra×ByteArray:=
 if !F.right t then(c,noBytes)else if c.1 then(if t<=c.2.1 then(c,noBytes)else e5 F y.1 t c.2.1 c.1 y.2)else e5 F y.1 t c.2.1 c.1 y.2
end
section
variable (F:Fs) (h:DsOk F) (T:List (Ct Zm)) (n:Nat) {x0:Cra×Int×ByteArray} {y0:Cra×HeD} {hY:∀w,GW w->Calls Zm 18 ((Ac cCra (Ac cI (Aa cS))).enc x0).toArray w fun e w'=>e=.returned ((Au cCra MH).enc y0)/\Below w.heap.size w w'} (Post:Value->Prop)
abbrev rQ:VQ:=Bz Zm (Ba Zm 8) (fun v _=>Post v)
abbrev pQ:Cra×ByteArray->Prop:=PJ (Au cCra cS) Post
theorem AD2(hT:T=JK F h x0 y0 hY)(t:Int)(c:Cra):c60 T n (rQ Post) t c=pQ Post (e60 F (I2 c) t):=by
 unfold c60 e60
 simp only[AJ4 F h T n hT,D6]
 rw[Ja (K:=pQ Post)]
theorem Amw(hT:T=JK F h x0 y0 hY)(t:Int)(c:Cra):c58 T n (rQ Post) t c=pQ Post (e58 F c t):=by
 unfold c58 e58
 simp only[AJ3,D6,AD2 F h T n Post hT]
 rw[Bg (K:=pQ Post)]
theorem AD3(hT:T=JK F h x0 y0 hY)(t:Int)(c:Cra)(a:Tup 4×Bool):AD1 F T n (rQ Post) t c a=pQ Post (e54 F c t a):=by
 unfold AD1 e54
 simp only[Amw F h T n Post hT]
 rw[Bg (K:=pQ Post)]
theorem AD4(hT:T=JK F h x0 y0 hY)(t md:Int)(c:Cra)(s b:Tup 6):c51 T n (rQ Post) t md c s b=pQ Post (e51 F c t md s b):=by
 unfold c51 e51
 simp only[AJ1 F h T n (rQ Post) hT,c54,AJ2 F h T n (rQ Post) hT,D6,Amw F h T n Post hT,AD3 F h T n Post hT]
 rw[Bg (K:=pQ Post),Ja (K:=pQ Post)]
theorem Amx(hT:T=JK F h x0 y0 hY)(t:Int)(c:Cra)(s b:Tup 6)(e:SeD):c50 T n (rQ Post) t c s b e=pQ Post (e50 F c t s b e):=by
 unfold c50 e50
 simp only[AOn F h T n (rQ Post) hT,D6,AD4 F h T n Post hT]
theorem AD5(hT:T=JK F h x0 y0 hY)(t:Int)(c:Cra)(s b:Tup 6)(e:SeD)(g:Tup 43)(fl:Bool):Amu F T n (rQ Post) t c s b e g fl=pQ Post (XY F c t s b e g fl):=by
 unfold Amu XY
 simp only[Amx F h T n Post hT]
 rw[Bg (K:=pQ Post)]
theorem AD6(hT:T=JK F h x0 y0 hY)(t:Int)(c:Cra)(s b:Tup 6)(e:SeD)(r:Tup 43×Bool):Avk F T n (rQ Post) t c s b e r=pQ Post (Ae6 F c t s b e r):=by
 unfold Avk Ae6
 simp only[AD5 F h T n Post hT]
 rw[Bg (K:=pQ Post),Bg (K:=pQ Post)]
theorem AD7(hT:T=JK F h x0 y0 hY)(t ms:Int)(c:Cra)(x:HeD)(s b:Tup 6)(e:SeD)(v:Bool):c37 T n (rQ Post) t ms c x s b e v=pQ Post (e37 F c t ms x s b e v):=by
 unfold c37 e37
 simp only[AOl F h T n (rQ Post) hT,D6,AD6 F h T n Post hT,Amx F h T n Post hT]
 rw[Bg (K:=pQ Post),Bg (K:=pQ Post)]
theorem AD8(hT:T=JK F h x0 y0 hY)(t ms:Int)(c:Cra)(x:HeD)(s b:Tup 6)(e:SeD):g37 T n (rQ Post) t ms c x s b e=pQ Post (eG F c t ms x s b e):=by
 unfold g37 eG
 simp only[AD7 F h T n Post hT]
 rw[Ja (K:=pQ Post)]
theorem AD9(hT:T=JK F h x0 y0 hY)(t ms:Int)(kn:Bool)(c:Cra)(x:HeD)(p:Tup 3)(s b:Tup 6)(e:SeD):c35 T n (rQ Post) t ms kn c x p s b e=pQ Post (e35 F c t ms kn x p s b e):=by
 unfold c35 e35
 simp only[AOk F h T n (rQ Post) hT,D6,AD8 F h T n Post hT]
 rw[Bg (K:=pQ Post)]
theorem AEa(hT:T=JK F h x0 y0 hY)(t ms:Int)(kn:Bool)(c:Cra)(x:HeD)(p:Tup 3)(s b:Tup 6)(e:SeD)(v:Bool):c30 T n (rQ Post) t ms kn c x p s b e v=pQ Post (e30 F c t ms kn x p s b e v):=by
 unfold c30 e30
 simp only[AOj F h T n (rQ Post) hT,D6,AD9 F h T n Post hT]
 rw[Bg (K:=pQ Post),Bg (K:=pQ Post)]
theorem AEb(hT:T=JK F h x0 y0 hY)(t ms:Int)(kn:Bool)(c:Cra)(x:HeD)(p:Tup 3)(s b:Tup 6)(e:SeD):g30 T n (rQ Post) t ms kn c x p s b e=pQ Post (eP F c t ms kn x p s b e):=by
 unfold g30 eP
 simp only[AEa F h T n Post hT]
 rw[Bg (K:=pQ Post),Bg (K:=pQ Post)]
theorem AEc(hT:T=JK F h x0 y0 hY)(t was:Int)(on kn:Bool)(ms i:Int)(d:Nat->Value)(c:Cra)(x:HeD)(p:Tup 3)(s b:Tup 6)(e:SeD):
    Ao Zm T (fun _=>[]) n (Hd T) (QU Zm 15) (rQ Post) (Amr t was on kn ms i d) (m21 c x p s b e)=pQ Post (e27 F c t ms kn x p s b e):=by
 rw[AOi F h T n (rQ Post) hT]
 unfold e27
 simp only[AEb F h T n Post hT]
 rw[AX (K:=pQ Post),Bg (K:=pQ Post)]
end
structure HR(x:Hea)(y:HeD):Prop where
 t1:y.2.1= !decide (x.1.1=0)
 t2:y.2.2.1= !decide (x.2.1.1=0)
 t3:y.2.2.2.1= !decide (x.2.2.1.1=0)
 r1:y.2.2.2.2.2.1=x.1
 r2:y.2.2.2.2.2.2.1=x.2.1
 r3:y.2.2.2.2.2.2.2.1=x.2.2.1
 o:y.2.2.2.2.2.2.2.2=x.2.2.2
theorem HR.zero:HR IE zeroHeD:=⟨rfl,rfl,rfl,rfl,rfl,rfl,rfl⟩
theorem HR.s1{x:Hea}{y:HeD}(h:HR x y){r:Tup 5}(hr:r.1=1):HR (r,x.2.1,x.2.2.1,x.2.2.2) (Au8 y r):=⟨by show true=_;rw[hr];rfl,h.t2,h.t3,rfl,h.r2,h.r3,h.o⟩
theorem HR.s2{x:Hea}{y:HeD}(h:HR x y){r:Tup 5}(hr:r.1=2):HR (x.1,r,x.2.2.1,x.2.2.2) (Au9 y r):=⟨h.t1,by show true=_;rw[hr];rfl,h.t3,h.r1,rfl,h.r3,h.o⟩
theorem HR.s3{x:Hea}{y:HeD}(h:HR x y){r:Tup 5}(hr:r.1=3):HR (x.1,x.2.1,r,x.2.2.2) (Ava y r):=⟨h.t1,h.t2,by show true=_;rw[hr];rfl,h.r1,h.r2,rfl,h.o⟩
theorem HR.so{x:Hea}{y:HeD}(h:HR x y)(o:Int):HR (x.1,x.2.1,x.2.2.1,o) (Aml y o):=⟨h.t1,h.t2,h.t3,h.r1,h.r2,h.r3,rfl⟩
def HS(s:Cra×Hea)(s':Cra×HeD):Prop:=s.1=s'.1/\HR s.2 s'.2
theorem HS.ite{b:Bool}{A B:Cra×Hea}{A' B':Cra×HeD}(h1:HS A A')(h2:b=false->HS B B'):HS (if b then A else B) (if b then A' else B'):=by
 cases b
 ·exact h2 rfl
 ·exact h1
theorem Avm(F:Fs)(hk:∀f,(F.read f).2=true->(F.read f).1.1=f.1){c:Cra}{x:Hea}{y:HeD}(h:HR x y)(f:Fra)(t:Int):
    (f.1=1->HS (senW F c x f t) (PS F t c y f Au8))/\(f.1=2->HS (senW F c x f t) (PS F t c y f Au9))/\(f.1=3->HS (senW F c x f t) (PS F t c y f Ava)):=by
 unfold senW PS
 cases e:(F.read f).2
 ·exact⟨fun _=>⟨rfl,h⟩,fun _=>⟨rfl,h⟩,fun _=>⟨rfl,h⟩⟩
 ·have k:=hk f e
  cases e2:F.fresh ((F.read f).1,t)
  ·exact⟨fun _=>⟨rfl,h⟩,fun _=>⟨rfl,h⟩,fun _=>⟨rfl,h⟩⟩
  ·generalize (F.read f).1=r at k
   refine⟨fun e=>?_,fun e=>?_,fun e=>?_⟩
   ·rw[e]at k
    rw[k]
    exact⟨rfl,h.s1 k⟩
   ·rw[e]at k
    rw[k]
    exact⟨rfl,h.s2 k⟩
   ·rw[e]at k
    rw[k]
    exact⟨rfl,h.s3 k⟩
theorem Avn{c:Cra}{x:Hea}{y:HeD}(h:HR x y)(o:Tup 9×Int):HS (ordC c x o) (XV c y o):=by
 unfold ordC XV
 exact HS.ite ⟨rfl,h⟩ fun _=>HS.ite ⟨rfl,h.so _⟩ fun _=>HS.ite ⟨rfl,h.so _⟩ fun _=>HS.ite ⟨rfl,h⟩ fun _=>HS.ite ⟨rfl,h⟩ fun _=>⟨rfl,h⟩
theorem Amy(F:Fs)(hk:∀f,(F.read f).2=true->(F.read f).1.1=f.1)(t:Int){s:Cra×Hea}{s':Cra×HeD}(h:HS s s')(f:Fra):HS (Dv F t s f) (Gd F t s' f):=by
 obtain⟨c,x⟩:=s
 obtain⟨c',y⟩:=s'
 obtain⟨rfl,h⟩:=h
 have S:=Avm F hk (c:=c) h f t
 unfold Dv Gd
 by_cases h1:f.1=1
 ·rw[if_pos h1,if_pos h1];exact S.1 h1
 by_cases h2:f.1=2
 ·rw[if_neg h1,if_neg h1,if_pos h2,if_pos h2];exact S.2.1 h2
 by_cases h3:f.1=3
 ·rw[if_neg h1,if_neg h1,if_neg h2,if_neg h2,if_pos h3,if_pos h3];exact S.2.2 h3
 rw[if_neg h1,if_neg h1,if_neg h2,if_neg h2,if_neg h3,if_neg h3]
 by_cases h4:f.1=16
 ·rw[if_pos h4,if_pos h4];exact Avn h _
 ·rw[if_neg h4,if_neg h4];exact⟨rfl,h⟩
theorem Vx(F:Fs)(hk:∀f,(F.read f).2=true->(F.read f).1.1=f.1)(t:Int):∀(l:List Fra) {s:Cra×Hea} {s':Cra×HeD},HS s s'->HS (l.foldl (Dv F t) s) (l.foldl (Gd F t) s')
 |[],_,_,h=>h
 |f::l,_,_,h=>Vx F hk t l (Amy F hk t h f)
theorem Amz(F:Fs)(hk:∀f,(F.read f).2=true->(F.read f).1.1=f.1)(c:Cra)(t:Int)(b:ByteArray):HS (takeW F c t b) (takeD F c t b):=Vx F hk t _ ⟨rfl,HR.zero⟩
theorem Ox{x:Int}(h:-9223372036854775808<=x/\x<=9223372036854775807):IntKind.i64.wrap x=x:=by rw[IntKind.wrap_i64];omega
theorem Am0{was t:Int}(hw:0<=was/\was<=4611686018427387904)(ht:0<=t/\t<=4611686018427387904)(on:Bool)(e:SeD):∀c:Nat,c<=9991->SR was t on e c=if on=true/\10<=t-was/\t-was<10+(c:Int)then(Ou e false,t-was)else(e,0)
 |0,_=>by rw[SR,if_neg (by omega)]
 | c +1,hc=>by
  have ih:=Am0 hw ht on e c (by omega)
  rw[SR,ih]
  cases on
  ·rfl
  ·rw[if_pos rfl,Ox (x:=t-(10+(c:Int))) (by omega),Ox (x:=was+(10+(c:Int))) (by omega)]
   by_cases h0:was<=t-(10+(c:Int))
   ·rw[if_pos h0]
    by_cases h1:was+(10+(c:Int))=t
    ·rw[if_pos h1,if_neg (show ¬(true=true/\10<=t-was/\t-was<10+(c:Int))from fun h=>by omega),if_pos (show true=true/\10<=t-was/\t-was<10+((c+1:Nat):Int)from⟨rfl,by omega,by omega⟩)]
     exact Prod.ext rfl (show 10+(c:Int)=t-was by omega)
    ·rw[if_neg h1]
     by_cases h3:10<=t-was/\t-was<10+(c:Int)
     ·rw[if_pos (show true=true/\10<=t-was/\t-was<10+(c:Int)from⟨rfl,h3⟩),if_pos (show true=true/\10<=t-was/\t-was<10+((c+1:Nat):Int)from⟨rfl,by omega,by omega⟩)]
     ·rw[if_neg (show ¬(true=true/\10<=t-was/\t-was<10+(c:Int))from fun h=>h3 h.2),if_neg (show ¬(true=true/\10<=t-was/\t-was<10+((c+1:Nat):Int))from fun h=>by omega)]
   ·rw[if_neg h0]
    by_cases h3:10<=t-was/\t-was<10+(c:Int)
    ·rw[if_pos (show true=true/\10<=t-was/\t-was<10+(c:Int)from⟨rfl,h3⟩),if_pos (show true=true/\10<=t-was/\t-was<10+((c+1:Nat):Int)from⟨rfl,by omega,by omega⟩)]
    ·rw[if_neg (show ¬(true=true/\10<=t-was/\t-was<10+(c:Int))from fun h=>h3 h.2),if_neg (show ¬(true=true/\10<=t-was/\t-was<10+((c+1:Nat):Int))from fun h=>by omega)]
structure Ag{A R:Type}(f g:Bool->A->R×Bool):Prop where
 bad:∀x,(f true x).2=true/\(g true x).2=true
 flag:∀x,(g false x).2=(f false x).2
 val:∀x,(f false x).2=false->(g false x).1=(f false x).1
structure Ft(F D:Fs):Prop where
 right:D.right=F.right
 place:Ag F.place D.place
 dir:Ag F.dir D.dir
 sky:Ag F.sky D.sky
 norm:Ag F.norm D.norm
 apart:D.apart=F.apart
 shaded:D.shaded=F.shaded
 move:Ag F.move D.move
 meet:Ag F.meet D.meet
 spread:Ag F.spread D.spread
 att:Ag F.att D.att
 start:D.start=F.start
 bstep:∀(d:Dri) (v:Tup 3) (k:Int),-9223372036854775808<=d.2.1/\d.2.1<=9223372036854775807->-9223372036854775808<=k/\k<=9223372036854775807->(D.bstep false (d,v,k)).1=(F.bstep false (d,v,k)).1
 dip:∀d,(D.dip false d).1=(F.dip false d).1
 next:D.next=F.next
 counts:D.counts=F.counts
 write:D.write=F.write
 wrap:D.wrap=F.wrap
 read:D.read=F.read
 fresh:D.fresh=F.fresh
 oread:∀f:Fra,f.1=16->D.oread f=F.oread f
def Ge(F:Fs)(c:Cra):Prop:=(F.write (Aeu c (F.counts (q4T c.2.2.2.2.2.2.2.1,F9 F c)))).2=true
section
variable {F D:Fs}
theorem Am1(S:Ft F D)(c:Cra)(t:Int)(hw:Ge F (AV c t)):e60 D c t=(AV c t,GV F (AV c t)):=by
 have e:GV F (AV c t)=QV D (AV c t) (F9 F (AV c t)):=by
  unfold GV QV
  rw[S.write,S.wrap,S.counts,show(F.write (Aeu (AV c t) (F.counts (q4T (AV c t).2.2.2.2.2.2.2.1,F9 F (AV c t))))).2=true from hw]
  rfl
 rw[e]
 unfold e60 F9
 rw[S.dip]
 by_cases h:c.2.2.2.1.1=0
 ·rw[if_pos h,show(!decide ((AV c t).2.2.2.1.1=0))=false by rw[show(AV c t).2.2.2.1.1=c.2.2.2.1.1 from rfl,decide_eq_true h];rfl]
  rfl
 ·rw[if_neg h,show(!decide ((AV c t).2.2.2.1.1=0))=true by rw[show(AV c t).2.2.2.1.1=c.2.2.2.1.1 from rfl,decide_eq_false h];rfl]
  rfl
theorem Aay(S:Ft F D)(c:Cra)(t:Int)(h:c.2.2.2.1.1=2)(hw:Ge F (AV (I2 c) t)):e58 D c t=(AV (I2 c) t,GV F (AV (I2 c) t)):=by
 unfold e58
 rw[decide_eq_true h]
 exact Am1 S _ t hw
theorem XZ(S:Ft F D)(c:Cra)(t:Int)(h:c.2.2.2.1.1≠2)(hw:Ge F (AV (I2 (setGue c Ml)) t)):e58 D c t=(AV (I2 (setGue c Ml)) t,GV F (AV (I2 (setGue c Ml)) t)):=by
 unfold e58
 rw[decide_eq_false h]
 exact Am1 S _ t hw
theorem M9(S:Ft F D)(c:Cra)(s:See)(x:Hea)(y:Sky)(t:Int)(sd:Tup 6)(hs:(F.next (c.2.2.2.1,s)).1=2->c.2.2.2.1.1≠2->sd=y.2.2)
    (hw:Ge F (Ib c t (planW F c s x y).1 (planW F c s x y).2)):e50 D c t sd (Bm x) s=IT F c s x y t:=by
 unfold IT e50 e51
 unfold planW at hw ⊢
 rw[S.next]
 generalize hn:F.next (c.2.2.2.1,s)=n at hs hw ⊢
 by_cases h1:n.1=2
 ·rw[if_pos (show(Cv c n).2.2.2.1.1=2 from h1)]
  rw[decide_eq_true h1]at hw ⊢
  by_cases h2:c.2.2.2.1.1=2
  ·rw[decide_eq_true h2]at hw ⊢
   exact Aay S (Cv c n) t h1 hw
  ·rw[decide_eq_false h2]at hw ⊢
   rw[hs h1 h2]
   have hf:=S.att.flag (y.2.2,Bm x)
   have hv:=S.att.val (y.2.2,Bm x)
   change Ge F (Ib c t (Km F n y.2.2 (Bm x)).1 (Km F n y.2.2 (Bm x)).2)at hw
   change e54 D (Cv c n) t (D.att false (y.2.2,Bm x))=(Ib c t (Km F n y.2.2 (Bm x)).1 (Km F n y.2.2 (Bm x)).2,GV F (Ib c t (Km F n y.2.2 (Bm x)).1 (Km F n y.2.2 (Bm x)).2))
   unfold Km at hw ⊢
   unfold e54
   rw[hf,S.start]
   cases e:(F.att false (y.2.2,Bm x)).2
   ·rw[e]at hw
    rw[hv e]
    exact Aay S (setGue (Cv c n) (F.start (F.att false (y.2.2,Bm x)).1)) t h1 hw
   ·rw[e]at hw
    exact XZ S (Cv (setGue (Cv c n) (F.start (D.att false (y.2.2,Bm x)).1)) (1,0,0,0,0,XG n.2.2.2.2.2.1,())) t (by show(1:Int)≠2;decide) hw
 ·rw[if_neg (show ¬(Cv c n).2.2.2.1.1=2 from h1)]
  rw[decide_eq_false h1]at hw ⊢
  exact XZ S (Cv c n) t h1 hw
end
end
namespace Nx
open Go.RowKit Go.Proofs.YtoadcnhcfodkgaaGreatDoor
section
variable {P:Program} {a b:Nat} {sa:List Value} {sr:Value} {kind:Nat}
theorem Kv(h:∃g,BY P (fun d=>bif d then b else a) sa sr kind g)(hk:kind≠8){A R:Type}(d:Dl A)(c:Dc R)(hd:∀x,Aj (G2 []) sa (d.enc x))(hc:∀v,G2 [] sr v->∃y,c.enc y=v):
    ∃f g:Bool->A->R×Bool,Ai P a d f c/\Ai P b d g c/\Ag f g:=by
 obtain⟨g,h1,h2,_⟩:=h
 have key:∀x:Bool×Bool×A,∃y:R,c.enc y=(g x.1 x.2.1 (d.enc x.2.2)).1:=fun x=>hc _ (h1 x.1 x.2.1 (d.enc x.2.2) (hd x.2.2)).2.2.1
 have fx:∀(e bad:Bool) (x:A) (y:R),c.enc y=(g e bad (d.enc x)).1->∀k w,GW w->1<k->Fl k bad w->Calls P (bif e then b else a) (ptr k::d.enc x).toArray w fun e' w'=>e'=.returned (c.enc y)/\Fl k (g e bad (d.enc x)).2 w'/\Ad k w w':=by
  intro e bad x y hy k w hg h1k hf
  rw[hy]
  exact((h1 e bad (d.enc x) (hd x)).1.1 hk).2.2 k w hg h1k hf
 refine⟨fun bad x=>(Classical.choose (key (false,bad,x)),(g false bad (d.enc x)).2),fun bad x=>(if bad=false/\(g false false (d.enc x)).2=false then Classical.choose (key (false,false,x))else Classical.choose (key (true,bad,x)),(g true bad (d.enc x)).2),?_,?_,?_⟩
 ·intro k bad x w hg h1k hf
  exact fx false bad x _ (Zp (key (false,bad,x))) k w hg h1k hf
 ·intro k bad x w hg h1k hf
  refine fx true bad x _ ?_ k w hg h1k hf
  by_cases e:bad=false/\(g false false (d.enc x)).2=false
  ·have s:=Zp (key (false,false,x))
   dsimp only at s ⊢
   rw[if_pos e,s,e.1]
   exact(h2 (d.enc x) (hd x)).2 e.2
  ·have s:=Zp (key (true,bad,x))
   dsimp only at s ⊢
   rw[if_neg e,s]
 ·refine⟨fun x=>⟨(h1 false true _ (hd x)).2.1 rfl,(h1 true true _ (hd x)).2.1 rfl⟩,fun x=>(h2 _ (hd x)).1.symm,fun x e=>?_⟩
  show(if false=false/\(g false false (d.enc x)).2=false then _ else _)=_
  rw[if_pos ⟨rfl,e⟩]
theorem Avo(h:∃g,BY P (fun d=>bif d then b else a) sa sr 5 g){A R:Type}(d:Dl A)(c:Dc R)(hd:∀x,Aj (G2 []) sa (d.enc x))(hc:∀v,G2 [] sr v->∃y,c.enc y=v):
    ∃f:Bool->A->R×Bool,Ai P a d f c/\Ai P b d f c:=by
 obtain⟨g,h1,h2,_⟩:=h
 have key:∀x:Bool×A,∃y:R,c.enc y=(g false x.1 (d.enc x.2)).1:=fun x=>hc _ (h1 false x.1 (d.enc x.2) (hd x.2)).2.2.1
 have eq:∀bad x,(g true bad (d.enc x)).1=(g false bad (d.enc x)).1/\(g true bad (d.enc x)).2=(g false bad (d.enc x)).2:=by
  intro bad x
  have z:∀e,(g e bad (d.enc x)).2=true->(g e bad (d.enc x)).1=N4 sr:=fun e=>(h1 e bad _ (hd x)).2.2.2.2.2.1 rfl
  cases bad
  ·have f:=(h2 _ (hd x)).1
   refine⟨?_,f.symm⟩
   cases e:(g false false (d.enc x)).2
   ·exact((h2 _ (hd x)).2 e).symm
   ·rw[z false e,z true (f.symm.trans e)]
  ·have e1:=(h1 true true _ (hd x)).2.1 rfl
   have e2:=(h1 false true _ (hd x)).2.1 rfl
   exact⟨by rw[z true e1,z false e2],by rw[e1,e2]⟩
 refine⟨fun bad x=>(Classical.choose (key (bad,x)),(g false bad (d.enc x)).2),?_,?_⟩
 ·intro k bad x w hg h1k hf
  have s:=Zp (key (bad,x))
  have:=((h1 false bad (d.enc x) (hd x)).1.1 (by decide)).2.2 k w hg h1k hf
  dsimp only at s ⊢
  rw[s]
  exact this
 ·intro k bad x w hg h1k hf
  have s:=Zp (key (bad,x))
  have:=((h1 true bad (d.enc x) (hd x)).1.1 (by decide)).2.2 k w hg h1k hf
  rw[(eq bad x).1,(eq bad x).2]at this
  dsimp only at s ⊢
  rw[s]
  exact this
end
def AJ9:Ct Zm:=Ak Zm 211 (Ac cI (Aa cI)) (fun bad x=>AA bad x.1 x.2) cI (Ae Tryz.func211 (by kernel_rfl) (by kernel_rfl)) (fun b bad x w _ _ hw=>DK b bad x.1 x.2 w hw)
def AEd:Ct Zm:=Ak Zm 135 (Ac cI (Ac cI (Aa cI))) (fun bad x=>Ar bad x.1 x.2.1 x.2.2) cI (Ae Tryz.func135 (by kernel_rfl) (by kernel_rfl)) (fun b bad x w _ _ hw=>Kj b bad x.1 x.2.1 x.2.2 w hw)
def AEe:Ct Zm:=Ak Zm 121 Mi (fun _ _=>((),true)) cU (Ae Tryz.func121 (by kernel_rfl) (by kernel_rfl)) (fun b bad _ w _ _ hw=>BA b bad w hw)
def vNrmS(bad:Bool)(p:Int×Int×Int):Int×Bool:=Ar bad p.1 p.2.1 p.2.2
theorem Avp:Ai Zm 46 (Aa cV3) vNrmS cI:=AZ (tbl:=[AEd]) (dirty:=fun _=>[]) (n:=4) xmixA Tryz.func46 rfl (fun bad x Post=>by kernel_rfl)
def cvNrm:Ct Zm:=Ak Zm 46 (Aa cV3) vNrmS cI (Ae Tryz.func46 (by kernel_rfl) (by kernel_rfl)) Avp
def vUniS(bad:Bool)(p:Int×Int×Int):(Int×Int×Int)×Bool:=
 if (Ar bad p.1 p.2.1 p.2.2).1<1048576 then((0,0,0),true)else
 (((AA (Ar bad p.1 p.2.1 p.2.2).2 p.1 (Ar bad p.1 p.2.1 p.2.2).1).1,(AA (AA (Ar bad p.1 p.2.1 p.2.2).2 p.1 (Ar bad p.1 p.2.1 p.2.2).1).2 p.2.1 (Ar bad p.1 p.2.1 p.2.2).1).1,(AA (AA (AA (Ar bad p.1 p.2.1 p.2.2).2 p.1 (Ar bad p.1 p.2.1 p.2.2).1).2 p.2.1 (Ar bad p.1 p.2.1 p.2.2).1).2 p.2.2 (Ar bad p.1 p.2.1 p.2.2).1).1),(AA (AA (AA (Ar bad p.1 p.2.1 p.2.2).2 p.1 (Ar bad p.1 p.2.1 p.2.2).1).2 p.2.1 (Ar bad p.1 p.2.1 p.2.2).1).2 p.2.2 (Ar bad p.1 p.2.1 p.2.2).1).2)
theorem vUni_ok:Ai Zm 240 (Aa cV3) vUniS cV3:=AZ (tbl:=[AJ9,AEe,cvNrm]) (dirty:=fun _=>[]) (n:=4) xmixA Tryz.func240 rfl (fun bad x Post=>by
    refine Eq.trans (b:=?m) ?x (Eq.symm ?y)
    case y=>unfold vUniS;simp only[<-Hj (K:=PK cV3 Post)];exact rfl
    case x=>kernel_rfl)
theorem Avq{a b c n:Int}(h:Ar false a b c=(n,false)):a.natAbs<=n.natAbs/\b.natAbs<=n.natAbs/\c.natAbs<=n.natAbs:=by
 unfold Ar at h
 split at h
 ·rename_i k
  obtain⟨_,c1,c2,c3⟩:=Ei k
  have sq:∀x:Int,numB x=true->0<=x*x/\x*x<=21267647932558653966460912964485513216:=fun x hx=>by
   have b:=Bh hx
   refine⟨by by_cases h0:0<=x;exact Int.mul_nonneg h0 h0;rw[<-Int.neg_mul_neg];exact Int.mul_nonneg (by omega) (by omega),?_⟩
   by_cases h0:0<=x
   ·exact EE h0 b.2
   ·have:(-x)*(-x)<=_:=EE (show 0<=-x by omega) (show-x<=4611686018427387904 by omega)
    rw[Int.neg_mul_neg]at this
    exact this
  have q1:=sq a c1
  have q2:=sq b c2
  have q3:=sq c c3
  obtain⟨i1,i2,i3⟩:=Dy (a*a+b*b+c*c) (by omega) (by omega)
  have hn:n=isq (a*a+b*b+c*c):=by
   have e1:=congrArg Prod.snd h
   have e2:=congrArg Prod.fst h
   unfold out KZ at e1 e2
   have e1:¬4611686018427387904<isq (a*a+b*b+c*c):=by simpa using e1
   dsimp only at e2
   rw[if_pos (by omega)]at e2
   simpa using e2.symm
  rw[hn]
  generalize isq (a*a+b*b+c*c)=s at *
  have lt:∀x:Int,0<=x*x->x*x<=a*a+b*b+c*c->x.natAbs<=s.natAbs:=fun x _ hx=>by
   rcases Nat.lt_or_ge s.natAbs x.natAbs with k |k
   ·exfalso
    have k2:s+1<=(x.natAbs:Int):=by omega
    have k3:(s+1)*(s+1)<=(x.natAbs:Int)*x.natAbs:=Int.mul_le_mul k2 k2 (by omega) (by omega)
    have k4:(x.natAbs:Int)*x.natAbs=x*x:=Int.natAbs_mul_self
    omega
   ·exact k
  exact⟨lt a (by omega) (by omega),lt b (by omega) (by omega),lt c (by omega) (by omega)⟩
 ·cases h
theorem SU{a n r:Int}(h:AA false a n=(r,false))(hn:a.natAbs<=n.natAbs)(h0:0<n.natAbs):Nat.ble r.natAbs 1099511627776=true:=by
 have h2:(Af false a 1099511627776 n).2=false:=congrArg Prod.snd h
 have:=partS_near a 1099511627776 n h2
 have e:(Af false a 1099511627776 n).1=r:=congrArg Prod.fst h
 rw[e]at this
 have e1:Int.natAbs 1099511627776=1099511627776:=rfl
 rw[e1]at this
 refine Nat.ble_eq_true_of_le ?_
 rcases Nat.lt_or_ge 1099511627776 r.natAbs with k |k
 ·exfalso
  have k2:1099511627777*n.natAbs<=r.natAbs*n.natAbs:=Nat.mul_le_mul_right _ k
  have k3:a.natAbs*1099511627776<=n.natAbs*1099511627776:=Nat.mul_le_mul_right _ hn
  omega
 ·exact k
theorem uni_low{p u:Int×Int×Int}(h:vUniS false p=(u,false)):Aea (cV3.enc u)=true:=by
 unfold vUniS at h
 split at h
 ·cases h
 ·rename_i hs
  cases hN:Ar false p.1 p.2.1 p.2.2 with
  |mk n b=>
  rw[hN]at h hs
  dsimp only at h hs
  cases b with
  | true=>
   have t:∀a b:Int,AA true a b=(0,true):=fun a b=>by
    unfold AA
    rw[Ca (show tk true _=false from rfl)]
   rw[t,t,t]at h
   cases h
  | false=>
   obtain⟨g1,g2,g3⟩:=Avq hN
   have t:∀a b:Int,AA true a b=(0,true):=fun a b=>by
    unfold AA
    rw[Ca (show tk true _=false from rfl)]
   cases h1:AA false p.1 n with
   |mk r1 b1=>
   rw[h1]at h
   dsimp only at h
   cases b1 with
   |true=>rw[t,t]at h;cases h
   |false=>
   cases h2:AA false p.2.1 n with
   |mk r2 b2=>
   rw[h2]at h
   dsimp only at h
   cases b2 with
   |true=>rw[t]at h;cases h
   |false=>
   cases h3:AA false p.2.2 n with
   |mk r3 b3=>
   rw[h3]at h
   cases h
   have k1:=SU h1 g1 (by omega)
   have k2:=SU h2 g2 (by omega)
   have k3:=SU h3 g3 (by omega)
   show(Xt (.int .i64 r1)&&(Xt (.int .i64 r2)&&(Xt (.int .i64 r3)&&true)))=true
   have l:∀r:Int,Nat.ble r.natAbs 1099511627776=true->Xt (.int .i64 r)=true:=fun r h=>h
   rw[l _ k1,l _ k2,l _ k3]
   rfl
theorem AEf{P:Program}{fn:Bool->Nat}{sa:List Value}{sr:Value}(h:∃g,BY P fn sa sr 0 g)(hi:P.inits.idxOf? (fn false)=none)(hl:∀rest,Aj (G2 []) sa rest->∃v b,CallsOk P (fn false) false rest v b/\(b=false->Aea v=true)):∃g,BY P fn sa sr 7 g:=by
 obtain⟨g,h1,h2,_⟩:=h
 refine⟨g,fun d b rest hc=>?_,h2,⟨fun e=>(by omega),fun e=>(by omega),fun e=>(by omega),fun e=>(by omega)⟩,⟨fun e=>(by omega),fun e=>(by omega),fun e=>(by omega)⟩⟩
 obtain⟨k1,k2,k3,_⟩:=h1 d b rest hc
 refine⟨⟨fun _=>k1.1 (by omega),fun e=>(by omega)⟩,k2,k3,fun e=>(by omega),fun e=>(by omega),fun e=>(by omega),fun _ hg=>?_⟩
 cases b with
 |true=>rw[k2 rfl]at hg;cases hg
 | false=>
  obtain⟨v,b,c1,c2⟩:=hl rest hc
  obtain⟨e1,e2⟩:=((h1 false false rest hc).1.1 (by omega)).det hi c1
  obtain⟨o1,o2⟩:=h2 rest hc
  cases d with
  |false=>
   rw[e1]
   exact c2 (e2.symm.trans hg)
  |true=>
   have hg0:=o1.trans hg
   rw[<-o2 hg0,e1]
   exact c2 (e2.symm.trans hg0)
theorem Am2{v:Value}(h:G2 [] (rI 3) v):∃p:Int×Int×Int,v=cV3.enc p:=by
 obtain⟨l,rfl,hl⟩:=h
 match l,hl with
 |[_,_,_],⟨⟨a,rfl⟩,⟨b,rfl⟩,⟨c,rfl⟩,_⟩=>exact⟨(a,b,c),rfl⟩
theorem Ae7(rest:List Value)(h:Aj (G2 []) [rI 3] rest):∃v b,CallsOk Zm 240 false rest v b/\(b=false->Aea v=true):=by
 match rest,h with
 |[v],h=>
 obtain⟨p,rfl⟩:=Am2 h.1
 refine⟨cV3.enc (vUniS false p).1,(vUniS false p).2,⟨fun u hu=>by rw[List.mem_singleton.1 hu];rfl,rfl,fun k w hg hk hw=>vUni_ok k false p w hg hk hw⟩,fun e=>uni_low (p:=p) (u:=(vUniS false p).1) (Prod.ext rfl e)⟩
theorem Avr:∃g,BY Zm (fun d=>bif d then 96 else 119) [rI 3,rI 3] (rI 3) 0 g:=AP xmixA (B6 [Jj]) (B7 (ks:=[1]) rfl) rfl (xa:=[(205,true,8,[rI 3],rI 3)]) (xb:=[(192,true,8,[rI 3],rI 3)]) (da:=fun _=>[]) (db:=fun _=>[]) (n:=8) (kk:=0) (by decide+kernel)
def Aaz:Pr Zm:=Oe 119 96 (by decide+kernel) (by decide+kernel) Avr
theorem Avs:∃g,BY Zm (fun d=>bif d then 82 else 138) [rI 3,rI 3] (rI 3) 0 g:=AP xmixA (B6 [Jk]) (B7 (ks:=[6]) rfl) rfl (xa:=[(205,true,8,[rI 3],rI 3)]) (xb:=[(192,true,8,[rI 3],rI 3)]) (da:=fun _=>[]) (db:=fun _=>[]) (n:=8) (kk:=0) (by decide+kernel)
def Am3:Pr Zm:=Oe 138 82 (by decide+kernel) (by decide+kernel) Avs
theorem Ae8:∃g,BY Zm (fun d=>bif d then 83 else 139) [rI 3,uI] (rI 3) 0 g:=AP xmixA (B6 [Hc]) (B7 (ks:=[2]) rfl) rfl (xa:=[(205,true,8,[rI 3],rI 3)]) (xb:=[(192,true,8,[rI 3],rI 3)]) (da:=fun _=>[]) (db:=fun _=>[]) (n:=8) (kk:=0) (by decide+kernel)
def SV:Pr Zm:=Oe 139 83 (by decide+kernel) (by decide+kernel) Ae8
theorem Avt:∃g,BY Zm (fun d=>bif d then 81 else 137) [rI 3,rI 3] (uI) 0 g:=AP xmixA (B6 [Hc,Jj]) (B7 (ks:=[2,1]) rfl) rfl (xa:=[]) (xb:=[]) (da:=fun _=>[]) (db:=fun _=>[]) (n:=8) (kk:=0) (by decide+kernel)
def Aa0:Pr Zm:=Oe 137 81 (by decide+kernel) (by decide+kernel) Avt
theorem Ae9:∃g,BY Zm (fun d=>bif d then 191 else 270) [rI 3,rI 3] (rI 3) 0 g:=AP xmixA (B6 [Hc,Jk]) (B7 (ks:=[2,6]) rfl) rfl (xa:=[(205,true,8,[rI 3],rI 3)]) (xb:=[(192,true,8,[rI 3],rI 3)]) (da:=fun _=>[]) (db:=fun _=>[]) (n:=8) (kk:=0) (by decide+kernel)
def SX:Pr Zm:=Oe 270 191 (by decide+kernel) (by decide+kernel) Ae9
theorem Vy:∃g,BY Zm (fun d=>bif d then 23 else 46) [rI 3] (uI) 0 g:=AP xmixA (B6 [Aaj]) (B7 (ks:=[3]) rfl) rfl (xa:=[]) (xb:=[]) (da:=fun _=>[]) (db:=fun _=>[]) (n:=8) (kk:=0) (by decide+kernel)
def X0:Pr Zm:=Oe 46 23 (by decide+kernel) (by decide+kernel) Vy
theorem Afa:∃g,BY Zm (fun d=>bif d then 97 else 240) [rI 3] (rI 3) 0 g:=AP xmixA (B6 [X0,Aaj,Vi]) (B7 (ks:=[0,3,3]) rfl) rfl (xa:=[]) (xb:=[(192,true,8,[rI 3],rI 3)]) (da:=fun _=>[]) (db:=fun _=>[]) (n:=8) (kk:=0) (by decide+kernel)
theorem Am4:∃g,BY Zm (fun d=>bif d then 97 else 240) [rI 3] (rI 3) 7 g:=AEf Afa (by decide+kernel) Ae7
def Ya:Pr Zm:=Oe 240 97 (by decide+kernel) (by decide+kernel) Am4
theorem QW:∃g,BY Zm (fun d=>bif d then 80 else 227) [rI 3,rI 3] (.tuple ⟨[uI,uI]⟩) 0 g:=AP xmixA (B6 [Ya,X0,SX,Aa0,Aaj]) (B7 (ks:=[7,0,0,0,3]) rfl) rfl (xa:=[]) (xb:=[]) (da:=fun _=>[]) (db:=fun _=>[]) (n:=8) (kk:=0) (by decide+kernel)
def Aa1:Pr Zm:=Oe 227 80 (by decide+kernel) (by decide+kernel) QW
theorem Avu:∃g,BY Zm (fun d=>bif d then 86 else 230) [rI 4,rI 4] (rI 4) 0 g:=AP xmixA (B6 [SV,Aaz,SX,Aa0,Jk,Hc]) (B7 (ks:=[0,0,0,0,6,2]) rfl) rfl (xa:=[(232,false,8,[rI 4],.tuple ⟨[rI 3,uI]⟩),(272,false,8,[rI 3,uI],rI 4),(271,true,8,[rI 4],rI 4)]) (xb:=[(193,false,8,[rI 4],.tuple ⟨[rI 3,uI]⟩),(194,true,8,[rI 3,uI],rI 4)]) (da:=fun _=>[]) (db:=fun _=>[]) (n:=8) (kk:=0) (by decide+kernel)
def AA2:Pr Zm:=Oe 230 86 (by decide+kernel) (by decide+kernel) Avu
theorem Am5:∃g,BY Zm (fun d=>bif d then 89 else 142) [rI 4] (rI 4) 4 g:=AP xmixA (B6 [Aaj,Vi]) (B7 (ks:=[3,3]) rfl) rfl (xa:=[(232,false,8,[rI 4],.tuple ⟨[rI 3,uI]⟩),(273,false,8,[uI],uI),(233,false,8,[rI 4],rI 4),(46,true,8,[rI 3],uI)]) (xb:=[]) (da:=fun _=>[]) (db:=fun _=>[]) (n:=8) (kk:=4) (by decide+kernel)
def SY:Pr Zm:=Oe 142 89 (by decide+kernel) (by decide+kernel) Am5
theorem Vz:∃g,BY Zm (fun d=>bif d then 87 else 231) [rI 3] (rI 4) 0 g:=AP xmixA (B6 [Aa0,Jj,Hc,Jk,Vi,SY]) (B7 (ks:=[0,1,2,6,3,4]) rfl) rfl (xa:=[]) (xb:=[]) (da:=fun _=>[]) (db:=fun _=>[]) (n:=8) (kk:=0) (by decide+kernel)
def QX:Pr Zm:=Oe 231 87 (by decide+kernel) (by decide+kernel) Vz
theorem Am6:∃g,BY Zm (fun d=>bif d then 99 else 239) [rI 4,rI 3] (rI 3) 0 g:=AP xmixA (B6 [SV,SX,Aaz,Am3]) (B7 (ks:=[0,0,0,0]) rfl) rfl (xa:=[(232,false,8,[rI 4],.tuple ⟨[rI 3,uI]⟩)]) (xb:=[(193,false,8,[rI 4],.tuple ⟨[rI 3,uI]⟩)]) (da:=fun _=>[]) (db:=fun _=>[]) (n:=8) (kk:=0) (by decide+kernel)
def AEg:Pr Zm:=Oe 239 99 (by decide+kernel) (by decide+kernel) Am6
theorem Afb:∃g,BY Zm (fun d=>bif d then 90 else 234) [rI 4] (rI 3) 0 g:=AP xmixA (B6 [Jj,Hc,Vi]) (B7 (ks:=[1,2,3]) rfl) rfl (xa:=[(273,false,8,[uI],uI),(233,false,8,[rI 4],rI 4),(274,true,8,[rI 3],rI 3)]) (xb:=[]) (da:=fun _=>[]) (db:=fun _=>[]) (n:=8) (kk:=0) (by decide+kernel)
def Avv:Pr Zm:=Oe 234 90 (by decide+kernel) (by decide+kernel) Afb
theorem Afc:∃g,BY Zm (fun d=>bif d then 24 else 136) [rI 3,rI 3] (unkB) 0 g:=AP xmixA (B6 [Aa1]) (B7 (ks:=[0]) rfl) rfl (xa:=[]) (xb:=[]) (da:=fun _=>[]) (db:=fun _=>[]) (n:=8) (kk:=0) (by decide+kernel)
abbrev BZ:List (Pr Zm):=[Aa1,Ya,Hc,Jk,Jj,SY]
abbrev CW:List Nat:=[0,7,2,6,1,4]
abbrev EI:List Ent:=[(136,true,12,[rI 3,rI 3],unkB),(205,true,12,[rI 3],rI 3),(270,true,12,[rI 3,rI 3],rI 3),(253,true,12,[rI 6],rI 9),(252,true,12,[rI 9,rI 9],rI 9),(276,true,12,[rI 9,uI],rI 4),(277,true,12,[rI 9],rI 4),(278,true,12,[rI 9],rI 4),(279,true,12,[rI 9],rI 4),(251,true,12,[rI 9],rI 4)]
abbrev EJ:List Ent:=[(24,true,12,[rI 3,rI 3],unkB),(192,true,12,[rI 3],rI 3),(191,true,12,[rI 3,rI 3],rI 3),(106,true,12,[rI 6],rI 9),(107,true,12,[rI 9],rI 4)]
theorem VA:SG Zm (tO BZ) EI EJ 167 30 (rI 4)=true:=by decide+kernel
theorem VB:IQ Zm (tO BZ) (tC BZ CW) CW false EI EJ (fun _=>[]) (fun _=>[]) 12 167 30 [rI 6,rI 6] (rI 4) 0=true:=by decide+kernel
theorem VC:IQ Zm (tO BZ) (tC BZ CW) CW true EJ EI (fun _=>[]) (fun _=>[]) 12 30 167 [rI 6,rI 6] (rI 4) 0=true:=by decide+kernel
theorem VD:IR Zm (tO BZ) CW false EI (fun _=>[]) 12 167 [rI 6,rI 6] (rI 4) 0=true:=by decide+kernel
theorem VF:IR Zm (tO BZ) CW true EJ (fun _=>[]) 12 30 [rI 6,rI 6] (rI 4) 0=true:=by decide+kernel
theorem SZ:∃g,BY Zm (fun d=>bif d then 30 else 167) [rI 6,rI 6] (rI 4) 0 g:=AP xmixA (B6 _) (B7 rfl) rfl (Lz rfl VA VB VC VD VF)
end Nx
end Go.Proofs.YtoadcnhcfodkgaaGreatDoor
