/-
A part.
A part.
A part.
A part.
A part.
A part.
A part.
A part.
A part.
A part.
A part.
A part.
A part.
A part.
A part.
A part.
A part.
A part.
A part.
A part.
A part.
A part.
A part.
A part.
-/
import Derived.Handy
import Derived.Deep.RegionHeld3
import Derived.Test.YtgmpfeaanjnhaaaGreatDoorU04
import Derived.Test.YtgmpfeaanjnhaaaGreatDoorU07
import Derived.Test.YtgmpfeaanjnhaaaGreatDoorU06
import Derived.Test.YtgmpfeaanjnhaaaGreatDoorU01
import Derived.Test.YtgmpfeaanjnhaaaGreatDoorU05
namespace Go.Proofs.YtgmpfeaanjnhaaaGreatDoor
open Go.RowKit
def numK(s:ByteArray)(i:Nat):Nat->Nat
 |0=>0
 |k+1=>numK s i k*256+bt s (i+k)
theorem OD(s:ByteArray)(i:Nat):∀k,numK s i k<256^k
 |0=>by show 0<1;decide
 |k+1=>by
  have h:=OD s i k
  have:=CU s (i+k)
  show numK s i k*256+bt s (i+k)<256^k*256
  omega
theorem Ns(s:ByteArray)(n i:Nat):∀k,numK (s.extract n s.size) i k=numK s (n+i) k
 |0=>rfl
 |k+1=>by
  show numK _ i k*256+bt _ (i+k)=numK s (n+i) k*256+bt s (n+i+k)
  rw[Ns s n i k,Og,Nat.add_assoc]
def onumS(s:ByteArray)(i:Nat):Int:=IntKind.i64.wrap (numK s i 8:Nat)
theorem Nt(s:ByteArray)(n i:Nat):onumS (s.extract n s.size) i=onumS s (n+i):=by
 unfold onumS
 rw[Ns]
def numL(n:Int):List Int:=[IntKind.u8.wrap (IntKind.u64.wrap n / 72057594037927936),IntKind.u8.wrap (IntKind.u64.wrap n / 281474976710656),IntKind.u8.wrap (IntKind.u64.wrap n / 1099511627776),IntKind.u8.wrap (IntKind.u64.wrap n / 4294967296),IntKind.u8.wrap (IntKind.u64.wrap n / 16777216),IntKind.u8.wrap (IntKind.u64.wrap n / 65536),IntKind.u8.wrap (IntKind.u64.wrap n / 256),IntKind.u8.wrap (IntKind.u64.wrap n)]
theorem Ads(n:Int):(numL n).length=8:=rfl
theorem Adt(n:Int):∀b∈numL n,0<=b/\b<256:=by
 intro b hb
 simp only[numL,List.mem_cons,List.not_mem_nil,or_false]at hb
 rcases hb with rfl |rfl |rfl |rfl |rfl |rfl |rfl |rfl<;>exact Qk _
def v7F(o:V7):Nat->Int:=fun i=>[o.1,o.2.1,o.2.2.1,o.2.2.2.1,o.2.2.2.2.1,o.2.2.2.2.2.1,o.2.2.2.2.2.2].getD i 0
def elsL(l:List Int)(ef:Nat->Int):Nat->List Int
 |0=>l
 |j+1=>elsL l ef j++numL (ef j)
theorem Co(l:List Int)(ef:Nat->Int):∀j,(elsL l ef j).length=l.length+8*j
 |0=>rfl
 |j+1=>by
  show(elsL l ef j++numL (ef j)).length=_
  rw[List.length_append,Co l ef j,Ads]
  omega
theorem Ls{l:List Int}(h:∀b∈l,0<=b/\b<256)(ef:Nat->Int):∀j,∀b∈elsL l ef j,0<=b/\b<256
 |0=>h
 |j+1=>fun b hb=>(List.mem_append.1 hb).elim (Ls h ef j b) (Adt _ b)
def DK(c:Int):Int:=if c=1∨c=2∨c=4 then 2 else if c=3 then 58 else 0
def BQ(q c:Int)(o:V7):Bool:=decide (0<=q)&&decide (q<=255)&&decide (1<=c)&&decide (c<=4)&&(!decide (c=3)||AA o)
def Lt(q c:Int)(o:V7):List Int:=if c=3 then elsL [q,c] (v7F o) 7 else [q,c]
def Tk(q c:Int)(o:V7):Int×ByteArray:=if BQ q c o then(16,strOf (Lt q c o))else(0,⟨#[]⟩)
def z7:V7:=(0,0,0,0,0,0,0)
def Aj9(s:ByteArray):V7:=(onumS s 2,onumS s 10,onumS s 18,onumS s 26,onumS s 34,onumS s 42,onumS s 50)
def Ck(k:Int)(s:ByteArray):(Int×Int×V7)×Int:=
 if s.size<2 then((0,0,z7),1)
 else if k≠16 then(((bt s 0:Nat),0,z7),1)
 else if DK (bt s 1:Nat)=0 then(((bt s 0:Nat),0,z7),2)
 else if (s.size:Int)≠DK (bt s 1:Nat)then(((bt s 0:Nat),0,z7),1)
 else if ((bt s 1:Nat):Int)≠3 then(((bt s 0:Nat),(bt s 1:Nat),z7),0)
 else if AA (Aj9 s)then(((bt s 0:Nat),3,Aj9 s),0)
 else(((bt s 0:Nat),0,z7),3)
set_option maxRecDepth 100000
set_option maxHeartbeats 20000000
theorem Er(c:Int)(w:World):Calls Tryz.prog 70 #[.int .i64 c] w fun e w'=>e=.returned (.int .i64 (DK c))/\w=w':=by
 by_cases h1:c=1
 ·subst h1
  go_enter Tryz.func70,Tryz.ntmps70
  go_wp2
  go_ret
  exact⟨rfl,rfl⟩
 by_cases h2:c=2
 ·subst h2
  go_enter Tryz.func70,Tryz.ntmps70
  go_wp2
  go_ret
  exact⟨rfl,rfl⟩
 by_cases h4:c=4
 ·subst h4
  go_enter Tryz.func70,Tryz.ntmps70
  go_wp2
  go_ret
  exact⟨rfl,rfl⟩
 by_cases h3:c=3
 ·subst h3
  go_enter Tryz.func70,Tryz.ntmps70
  go_wp2
  go_ret
  exact⟨rfl,rfl⟩
 have e:DK c=0:=by unfold DK;rw[if_neg (by omega),if_neg h3]
 rw[e]
 go_enter Tryz.func70,Tryz.ntmps70
 go_wp2
 go_ret
 exact⟨rfl,rfl⟩
theorem QK(q c:Int)(o:V7)(x:Int)(w:World):Calls Tryz.prog 210 #[.agg #[.int .i64 q,.int .i64 c,.int .i64 o.1,.int .i64 o.2.1,.int .i64 o.2.2.1,.int .i64 o.2.2.2.1,.int .i64 o.2.2.2.2.1,.int .i64 o.2.2.2.2.2.1,.int .i64 o.2.2.2.2.2.2],.int .i64 x] w fun e w'=>e=.returned (.tuple #[.agg #[.int .i64 q,.int .i64 0,.int .i64 0,.int .i64 0,.int .i64 0,.int .i64 0,.int .i64 0,.int .i64 0,.int .i64 0],.int .i64 x])/\Below w.heap.size w w':=by
 go_enter Tryz.func210,Tryz.ntmps210
 go_wp2_with (with_reducible refine Ae ?_)
 refine⟨bodyPost_ret (v:=.tuple #[.agg #[.int .i64 q,.int .i64 0,.int .i64 0,.int .i64 0,.int .i64 0,.int .i64 0,.int .i64 0,.int .i64 0,.int .i64 0],.int .i64 x]) (by simp[results_cell_tmp Tryz.results210,asAddr,go_sem]) rfl ⟨rfl,?_⟩⟩
 exact Ai (Ai (Below.refl _ _) _) _
theorem Aur{a b:Nat}(ha:a<72057594037927936)(hb:b<256):bits .or .u64 ((a:Int)*256) (b:Int)=((a*256+b:Nat):Int):=by
 rw[show(a:Int)*256=((a*256:Nat):Int)by omega]
 show IntKind.u64.wrap ((BitVec.ofInt 64 ((a*256:Nat):Int)|||BitVec.ofInt 64 (b:Int)).toNat:Int)=_
 have e:=Nat.two_pow_add_eq_or_of_lt (i:=8) (show b<2^8 by omega) a
 rw[BitVec.toNat_or,ofInt_u64 _ (by omega),ofInt_u64 b (by omega),show a*256=2^8*a by omega,<-e]
 rw[IntKind.wrap_u64]
 omega
theorem Tm(s:ByteArray)(w:World)(h:8<=s.size):
    Calls Tryz.prog 271 #[.string s] w fun e w'=>e=.returned (.int .i64 (onumS s 0))/\w=w':=by
 go_enter Tryz.func271,Tryz.ntmps271
 go_wp2
 go_loop [3,5] (fun r i=>∃k:Nat,k<=8/\i=.int .i64 k/\r=.int .u64 (numK s 0 k:Nat)) (fun _ i=>8-(intOf i).toNat)
 case atStart=>exact⟨0,by omega,rfl,rfl⟩
 case round=>
  obtain⟨k,hk,rfl,rfl⟩:=hrel
  by_cases c:k<8
  ·have hi:=B9 (s:=s) (i:=(k:Int)) (n:=k) (by omega) rfl
   have hb:=CU s k
   have ht:numK s 0 k<72057594037927936:=Nat.lt_of_lt_of_le (OD s 0 k) (show 256^k<=256^7 from Nat.pow_le_pow_right (by decide) (by omega))
   have HT:Hid (numK s 0 (k+1)=numK s 0 k*256+bt s k):=by show numK s 0 k*256+bt s (0+k)=_;rw[Nat.zero_add]
   generalize numK s 0 k=t at ht HT ⊢
   generalize bt s k=b at hi hb HT
   have ho:=Aur ht hb
   go_wp2
   go_round
   case rel=>exact⟨k+1,by omega,by go_num,by rw[HT.out];show _=Value.int .u64 ((t*256+b:Nat):Int);rw[show((t*256+b:Nat):Int)=(t:Int)*256+b by omega]⟩
   case measure=>simp[intOf];omega
  ·obtain rfl:k=8:=by omega
   have HT:Hid (onumS s 0=IntKind.i64.wrap (numK s 0 8:Nat)):=rfl
   have hl:=OD s 0 8
   generalize numK s 0 8=t at HT hl ⊢
   go_wp2
   go_ret
   exact⟨by rw[HT.out,IntWalk.i64_left];rfl,rfl⟩
theorem Es(p:Nat)(hp:p<7)(s:ByteArray)(k:Nat)(w:World)(hs:s.size=56)(hc:w.cell? ⟨k,0,none⟩=some (.string s)):
    Calls Tryz.prog 270 #[.int .i64 p,.pointer (some ⟨k,0,none⟩)] w fun e w'=>e=.returned (.int .i64 (onumS s (8*p)))/\w=w':=by
 have hj:=fun W=>Tm (s.extract (8*p) s.size) W (by rw[ByteArray.size_extract];omega)
 rw[Nt,Nat.add_zero]at hj
 have hsl:∀W:World,(Instr.slice 9 (.string s) (some (.int .i64 ((p:Int)*8))) none none).run Tryz.prog W=.ok (.string (s.extract (8*p) s.size)) W:=fun W=>by
  rw[run_slice_string_from_if W 9 s .i64 ((p:Int)*8) Tryz.underlying9,if_pos (by omega),show((p:Int)*8).toNat=8*p by omega]
 generalize s.extract (8*p) s.size=y at *
 generalize onumS s (8*p)=x at *
 go_enter Tryz.func270,Tryz.ntmps270
 go_wp2_with (go_at_call 271;refine(hj _).mono ?_;rintro e X ⟨rfl,rfl⟩)
 go_ret
 exact⟨rfl,rfl⟩
theorem Et(B:Nat)(v:Value)(l:List Int)(n:Int)(w:World)(hO:Bg B w v l)(hB:B<=w.heap.size)(hl:l.length<=90):
    Calls Tryz.prog 93 #[v,.int .i64 n] w fun e w'=>∃v',e=.returned v'/\Bg B w' v' (l++numL n)/\Below B w w'/\w.heap.size<=w'.heap.size:=by
 go_enter Tryz.func93,Tryz.ntmps93
 go_wp2_with fail
 refine wp_loop_rounds 9 ?_
 rw[rounds_succ]
 go_wp2_with (at_builtin;refine AN rfl (.tmp 10) (.tmp 16) rfl B v l [IntKind.u8.wrap (IntKind.u64.wrap n / 72057594037927936)] w rfl hO rfl (by simp;omega) hB ?_;intro v1 w1 o1 b1 s1)
 have z1:B<=w1.heap.size:=Nat.le_trans hB s1
 rw[rounds_succ]
 go_wp2_with (at_builtin;refine AN rfl (.tmp 10) (.tmp 16) rfl B v1 (l++[IntKind.u8.wrap (IntKind.u64.wrap n / 72057594037927936)]) [IntKind.u8.wrap (IntKind.u64.wrap n / 281474976710656)] w1 rfl o1 rfl (by simp;omega) z1 ?_;intro v2 w2 o2 b2 s2)
 have z2:B<=w2.heap.size:=Nat.le_trans z1 s2
 have b2:=b1.trans b2
 have s2:=Nat.le_trans s1 s2
 clear b1 s1 o1 z1
 rw[List.append_assoc]at o2
 simp only[List.cons_append,List.nil_append]at o2
 rw[rounds_succ]
 go_wp2_with (at_builtin;refine AN rfl (.tmp 10) (.tmp 16) rfl B v2 (l++[IntKind.u8.wrap (IntKind.u64.wrap n / 72057594037927936),IntKind.u8.wrap (IntKind.u64.wrap n / 281474976710656)]) [IntKind.u8.wrap (IntKind.u64.wrap n / 1099511627776)] w2 rfl o2 rfl (by simp;omega) z2 ?_;intro v3 w3 o3 b3 s3)
 have z3:B<=w3.heap.size:=Nat.le_trans z2 s3
 have b3:=b2.trans b3
 have s3:=Nat.le_trans s2 s3
 clear b2 s2 o2 z2
 rw[List.append_assoc]at o3
 simp only[List.cons_append,List.nil_append]at o3
 rw[rounds_succ]
 go_wp2_with (at_builtin;refine AN rfl (.tmp 10) (.tmp 16) rfl B v3 (l++[IntKind.u8.wrap (IntKind.u64.wrap n / 72057594037927936),IntKind.u8.wrap (IntKind.u64.wrap n / 281474976710656),IntKind.u8.wrap (IntKind.u64.wrap n / 1099511627776)]) [IntKind.u8.wrap (IntKind.u64.wrap n / 4294967296)] w3 rfl o3 rfl (by simp;omega) z3 ?_;intro v4 w4 o4 b4 s4)
 have z4:B<=w4.heap.size:=Nat.le_trans z3 s4
 have b4:=b3.trans b4
 have s4:=Nat.le_trans s3 s4
 clear b3 s3 o3 z3
 rw[List.append_assoc]at o4
 simp only[List.cons_append,List.nil_append]at o4
 rw[rounds_succ]
 go_wp2_with (at_builtin;refine AN rfl (.tmp 10) (.tmp 16) rfl B v4 (l++[IntKind.u8.wrap (IntKind.u64.wrap n / 72057594037927936),IntKind.u8.wrap (IntKind.u64.wrap n / 281474976710656),IntKind.u8.wrap (IntKind.u64.wrap n / 1099511627776),IntKind.u8.wrap (IntKind.u64.wrap n / 4294967296)]) [IntKind.u8.wrap (IntKind.u64.wrap n / 16777216)] w4 rfl o4 rfl (by simp;omega) z4 ?_;intro v5 w5 o5 b5 s5)
 have z5:B<=w5.heap.size:=Nat.le_trans z4 s5
 have b5:=b4.trans b5
 have s5:=Nat.le_trans s4 s5
 clear b4 s4 o4 z4
 rw[List.append_assoc]at o5
 simp only[List.cons_append,List.nil_append]at o5
 rw[rounds_succ]
 go_wp2_with (at_builtin;refine AN rfl (.tmp 10) (.tmp 16) rfl B v5 (l++[IntKind.u8.wrap (IntKind.u64.wrap n / 72057594037927936),IntKind.u8.wrap (IntKind.u64.wrap n / 281474976710656),IntKind.u8.wrap (IntKind.u64.wrap n / 1099511627776),IntKind.u8.wrap (IntKind.u64.wrap n / 4294967296),IntKind.u8.wrap (IntKind.u64.wrap n / 16777216)]) [IntKind.u8.wrap (IntKind.u64.wrap n / 65536)] w5 rfl o5 rfl (by simp;omega) z5 ?_;intro v6 w6 o6 b6 s6)
 have z6:B<=w6.heap.size:=Nat.le_trans z5 s6
 have b6:=b5.trans b6
 have s6:=Nat.le_trans s5 s6
 clear b5 s5 o5 z5
 rw[List.append_assoc]at o6
 simp only[List.cons_append,List.nil_append]at o6
 rw[rounds_succ]
 go_wp2_with (at_builtin;refine AN rfl (.tmp 10) (.tmp 16) rfl B v6 (l++[IntKind.u8.wrap (IntKind.u64.wrap n / 72057594037927936),IntKind.u8.wrap (IntKind.u64.wrap n / 281474976710656),IntKind.u8.wrap (IntKind.u64.wrap n / 1099511627776),IntKind.u8.wrap (IntKind.u64.wrap n / 4294967296),IntKind.u8.wrap (IntKind.u64.wrap n / 16777216),IntKind.u8.wrap (IntKind.u64.wrap n / 65536)]) [IntKind.u8.wrap (IntKind.u64.wrap n / 256)] w6 rfl o6 rfl (by simp;omega) z6 ?_;intro v7 w7 o7 b7 s7)
 have z7:B<=w7.heap.size:=Nat.le_trans z6 s7
 have b7:=b6.trans b7
 have s7:=Nat.le_trans s6 s7
 clear b6 s6 o6 z6
 rw[List.append_assoc]at o7
 simp only[List.cons_append,List.nil_append]at o7
 rw[rounds_succ]
 go_wp2_with (at_builtin;refine AN rfl (.tmp 10) (.tmp 16) rfl B v7 (l++[IntKind.u8.wrap (IntKind.u64.wrap n / 72057594037927936),IntKind.u8.wrap (IntKind.u64.wrap n / 281474976710656),IntKind.u8.wrap (IntKind.u64.wrap n / 1099511627776),IntKind.u8.wrap (IntKind.u64.wrap n / 4294967296),IntKind.u8.wrap (IntKind.u64.wrap n / 16777216),IntKind.u8.wrap (IntKind.u64.wrap n / 65536),IntKind.u8.wrap (IntKind.u64.wrap n / 256)]) [IntKind.u8.wrap (IntKind.u64.wrap n)] w7 rfl o7 rfl (by simp;omega) z7 ?_;intro v8 w8 o8 b8 s8)
 have z8:B<=w8.heap.size:=Nat.le_trans z7 s8
 have b8:=b7.trans b8
 have s8:=Nat.le_trans s7 s8
 clear b7 s7 o7 z7
 rw[List.append_assoc]at o8
 simp only[List.cons_append,List.nil_append]at o8
 rw[rounds_succ]
 go_wp2_with (with_reducible refine Ae ?_)
 exact⟨bodyPost_ret (v:=v8) (by simp[results,Tryz.results93,go_sem]) rfl ⟨v8,rfl,o8,b8,s8⟩⟩
@[go_sem] theorem Ap9 (a b c d e f g:Int)(w:World):(Instr.index 161 (.agg #[.int .i64 a,.int .i64 b,.int .i64 c,.int .i64 d,.int .i64 e,.int .i64 f,.int .i64 g]) (.int .i64 0)).run Tryz.prog w=.ok (.int .i64 a) w:=by kernel_rfl
@[go_sem] theorem Aqa (a b c d e f g:Int)(w:World):(Instr.index 161 (.agg #[.int .i64 a,.int .i64 b,.int .i64 c,.int .i64 d,.int .i64 e,.int .i64 f,.int .i64 g]) (.int .i64 1)).run Tryz.prog w=.ok (.int .i64 b) w:=by kernel_rfl
@[go_sem] theorem Aqb (a b c d e f g:Int)(w:World):(Instr.index 161 (.agg #[.int .i64 a,.int .i64 b,.int .i64 c,.int .i64 d,.int .i64 e,.int .i64 f,.int .i64 g]) (.int .i64 2)).run Tryz.prog w=.ok (.int .i64 c) w:=by kernel_rfl
@[go_sem] theorem Aqc (a b c d e f g:Int)(w:World):(Instr.index 161 (.agg #[.int .i64 a,.int .i64 b,.int .i64 c,.int .i64 d,.int .i64 e,.int .i64 f,.int .i64 g]) (.int .i64 3)).run Tryz.prog w=.ok (.int .i64 d) w:=by kernel_rfl
@[go_sem] theorem Aqd (a b c d e f g:Int)(w:World):(Instr.index 161 (.agg #[.int .i64 a,.int .i64 b,.int .i64 c,.int .i64 d,.int .i64 e,.int .i64 f,.int .i64 g]) (.int .i64 4)).run Tryz.prog w=.ok (.int .i64 e) w:=by kernel_rfl
@[go_sem] theorem Aqe (a b c d e f g:Int)(w:World):(Instr.index 161 (.agg #[.int .i64 a,.int .i64 b,.int .i64 c,.int .i64 d,.int .i64 e,.int .i64 f,.int .i64 g]) (.int .i64 5)).run Tryz.prog w=.ok (.int .i64 f) w:=by kernel_rfl
@[go_sem] theorem Aqf (a b c d e f g:Int)(w:World):(Instr.index 161 (.agg #[.int .i64 a,.int .i64 b,.int .i64 c,.int .i64 d,.int .i64 e,.int .i64 f,.int .i64 g]) (.int .i64 6)).run Tryz.prog w=.ok (.int .i64 g) w:=by kernel_rfl
theorem OE(s:ByteArray)(w:World)(hs:s.size=56):
    Calls Tryz.prog 211 #[.string s] w fun e w'=>e=.returned (.agg #[.int .i64 (onumS s 0),.int .i64 (onumS s 8),.int .i64 (onumS s 16),.int .i64 (onumS s 24),.int .i64 (onumS s 32),.int .i64 (onumS s 40),.int .i64 (onumS s 48)])/\Below w.heap.size w w':=by
 have hmf:∀(fn:Fn) (first cap:Array Value) (W:World),(Instr.makeFunc fn first cap).run Tryz.prog W=.ok (.func fn first cap) W:=fun _ _ _ _=>rfl
 have A:=(Am w w.heap.size [.string s] 9 rfl).alloc (.cells #[.int .i64 0,.int .i64 0,.int .i64 0,.int .i64 0,.int .i64 0,.int .i64 0,.int .i64 0] 38)
 have c0:=A.c 0 (zD rfl)
 have C0:Hid _:=c0
 clear A c0
 have h0:=fun W c=>Es 0 (by decide) s w.heap.size W hs c
 rw[show 8*0=0 from rfl]at h0
 generalize onumS s 0=x0 at h0 ⊢
 have h1:=fun W c=>Es 1 (by decide) s w.heap.size W hs c
 rw[show 8*1=8 from rfl]at h1
 generalize onumS s 8=x1 at h1 ⊢
 have h2:=fun W c=>Es 2 (by decide) s w.heap.size W hs c
 rw[show 8*2=16 from rfl]at h2
 generalize onumS s 16=x2 at h2 ⊢
 have h3:=fun W c=>Es 3 (by decide) s w.heap.size W hs c
 rw[show 8*3=24 from rfl]at h3
 generalize onumS s 24=x3 at h3 ⊢
 have h4:=fun W c=>Es 4 (by decide) s w.heap.size W hs c
 rw[show 8*4=32 from rfl]at h4
 generalize onumS s 32=x4 at h4 ⊢
 have h5:=fun W c=>Es 5 (by decide) s w.heap.size W hs c
 rw[show 8*5=40 from rfl]at h5
 generalize onumS s 40=x5 at h5 ⊢
 have h6:=fun W c=>Es 6 (by decide) s w.heap.size W hs c
 rw[show 8*6=48 from rfl]at h6
 generalize onumS s 48=x6 at h6 ⊢
 go_enter Tryz.func211,Tryz.ntmps211
 go_wp2_with fail
 refine(h0 _ C0.out).mono ?_
 rintro e X ⟨rfl,rfl⟩
 go_wp2_with fail
 refine(h1 _ C0.out).mono ?_
 rintro e X ⟨rfl,rfl⟩
 go_wp2_with fail
 refine(h2 _ C0.out).mono ?_
 rintro e X ⟨rfl,rfl⟩
 go_wp2_with fail
 refine(h3 _ C0.out).mono ?_
 rintro e X ⟨rfl,rfl⟩
 go_wp2_with fail
 refine(h4 _ C0.out).mono ?_
 rintro e X ⟨rfl,rfl⟩
 go_wp2_with fail
 refine(h5 _ C0.out).mono ?_
 rintro e X ⟨rfl,rfl⟩
 go_wp2_with fail
 refine(h6 _ C0.out).mono ?_
 rintro e X ⟨rfl,rfl⟩
 go_wp2_with (with_reducible refine Ae ?_)
 refine⟨bodyPost_ret (v:=.agg #[.int .i64 x0,.int .i64 x1,.int .i64 x2,.int .i64 x3,.int .i64 x4,.int .i64 x5,.int .i64 x6]) (by simp[results,Tryz.results211,asAddr,go_sem]) rfl ⟨rfl,?_⟩⟩
 exact Ai (Ai (Below.refl _ _) _) _
theorem Adu(B:Nat)(v:Value)(l:List Int)(o:V7)(w:World)(hO:Bg B w v l)(hB:B<=w.heap.size)(hl:l.length<=20):
    Calls Tryz.prog 72 #[v,.agg #[.int .i64 o.1,.int .i64 o.2.1,.int .i64 o.2.2.1,.int .i64 o.2.2.2.1,.int .i64 o.2.2.2.2.1,.int .i64 o.2.2.2.2.2.1,.int .i64 o.2.2.2.2.2.2]] w fun e w'=>∃v',e=.returned v'/\Bg B w' v' (elsL l (v7F o) 7)/\Below B w w'/\w.heap.size<=w'.heap.size:=by
 have O0:Bg B (w.alloc (.cells #[.int .i64 o.1,.int .i64 o.2.1,.int .i64 o.2.2.1,.int .i64 o.2.2.2.1,.int .i64 o.2.2.2.2.1,.int .i64 o.2.2.2.2.2.1,.int .i64 o.2.2.2.2.2.2] 38)) v (elsL l (v7F o) 0):=hO.same ((Below.refl _ _).alloc (Nat.le_refl _) _)
 have B0:B<=(w.alloc (.cells #[.int .i64 o.1,.int .i64 o.2.1,.int .i64 o.2.2.1,.int .i64 o.2.2.2.1,.int .i64 o.2.2.2.2.1,.int .i64 o.2.2.2.2.2.1,.int .i64 o.2.2.2.2.2.2] 38)).heap.size:=by simp;omega
 have L0:Below B w (w.alloc (.cells #[.int .i64 o.1,.int .i64 o.2.1,.int .i64 o.2.2.1,.int .i64 o.2.2.2.1,.int .i64 o.2.2.2.2.1,.int .i64 o.2.2.2.2.2.1,.int .i64 o.2.2.2.2.2.2] 38)):=(Below.refl B w).alloc hB _
 go_enter Tryz.func72,Tryz.ntmps72
 go_wp2_with fail
 refine wp_loop_rounds 8 ?_
 rw[rounds_succ]
 go_wp2_with fail
 refine(Et B v (elsL l (v7F o) 0) o.1 _ O0 B0 (by rw[Co];omega)).mono ?_
 rintro e X1 ⟨v1,rfl,o1,k1,s1⟩
 have z1:=Nat.le_trans B0 s1
 have o1:Bg B X1 v1 (elsL l (v7F o) 1):=o1
 go_wp2_with fail
 rw[rounds_succ]
 go_wp2_with fail
 refine(Et B v1 (elsL l (v7F o) 1) o.2.1 _ o1 z1 (by rw[Co];omega)).mono ?_
 rintro e X2 ⟨v2,rfl,o2,k2,s2⟩
 have z2:=Nat.le_trans z1 s2
 have o2:Bg B X2 v2 (elsL l (v7F o) 2):=o2
 have k2:=k1.trans k2
 have s2:=Nat.le_trans s1 s2
 clear k1 s1 o1 z1
 go_wp2_with fail
 rw[rounds_succ]
 go_wp2_with fail
 refine(Et B v2 (elsL l (v7F o) 2) o.2.2.1 _ o2 z2 (by rw[Co];omega)).mono ?_
 rintro e X3 ⟨v3,rfl,o3,k3,s3⟩
 have z3:=Nat.le_trans z2 s3
 have o3:Bg B X3 v3 (elsL l (v7F o) 3):=o3
 have k3:=k2.trans k3
 have s3:=Nat.le_trans s2 s3
 clear k2 s2 o2 z2
 go_wp2_with fail
 rw[rounds_succ]
 go_wp2_with fail
 refine(Et B v3 (elsL l (v7F o) 3) o.2.2.2.1 _ o3 z3 (by rw[Co];omega)).mono ?_
 rintro e X4 ⟨v4,rfl,o4,k4,s4⟩
 have z4:=Nat.le_trans z3 s4
 have o4:Bg B X4 v4 (elsL l (v7F o) 4):=o4
 have k4:=k3.trans k4
 have s4:=Nat.le_trans s3 s4
 clear k3 s3 o3 z3
 go_wp2_with fail
 rw[rounds_succ]
 go_wp2_with fail
 refine(Et B v4 (elsL l (v7F o) 4) o.2.2.2.2.1 _ o4 z4 (by rw[Co];omega)).mono ?_
 rintro e X5 ⟨v5,rfl,o5,k5,s5⟩
 have z5:=Nat.le_trans z4 s5
 have o5:Bg B X5 v5 (elsL l (v7F o) 5):=o5
 have k5:=k4.trans k5
 have s5:=Nat.le_trans s4 s5
 clear k4 s4 o4 z4
 go_wp2_with fail
 rw[rounds_succ]
 go_wp2_with fail
 refine(Et B v5 (elsL l (v7F o) 5) o.2.2.2.2.2.1 _ o5 z5 (by rw[Co];omega)).mono ?_
 rintro e X6 ⟨v6,rfl,o6,k6,s6⟩
 have z6:=Nat.le_trans z5 s6
 have o6:Bg B X6 v6 (elsL l (v7F o) 6):=o6
 have k6:=k5.trans k6
 have s6:=Nat.le_trans s5 s6
 clear k5 s5 o5 z5
 go_wp2_with fail
 rw[rounds_succ]
 go_wp2_with fail
 refine(Et B v6 (elsL l (v7F o) 6) o.2.2.2.2.2.2 _ o6 z6 (by rw[Co];omega)).mono ?_
 rintro e X7 ⟨v7,rfl,o7,k7,s7⟩
 have z7:=Nat.le_trans z6 s7
 have o7:Bg B X7 v7 (elsL l (v7F o) 7):=o7
 have k7:=k6.trans k7
 have s7:=Nat.le_trans s6 s7
 clear k6 s6 o6 z6
 go_wp2_with fail
 rw[rounds_succ]
 go_wp2_with (with_reducible refine Ae ?_)
 exact⟨bodyPost_ret (v:=v7) (by simp[results,Tryz.results72,go_sem]) rfl ⟨v7,rfl,o7,L0.trans k7,by have:=s7;simp at this;omega⟩⟩
theorem Adv(a:Int)(k:Int)(w:World)(he0:0<=k)(he1:k<=109951162777):
    Calls Tryz.prog 91 #[.int .i64 a,.int .i64 k] w fun e w'=>e=.returned (.bool (EY a k))/\Below w.heap.size w w':=by
 go_enter Tryz.func91,Tryz.ntmps91
 go_wp2_with fail
 refine(Ak w.heap.size false a (1099511627776-k) _ (Anb _ _ _ _ (by simp))).mono ?_
 rintro e w1 ⟨rfl,f1,k1⟩
 generalize e1:mulS false a (1099511627776-k)=r1 at f1 ⊢
 have E1:Hid _:=e1
 clear e1
 have K1:Below w.heap.size w w1:=k1.on (Ai (Below.refl w.heap.size w) _) (by omega)
 have z1:=f1.lies
 clear k1
 go_wp2_with fail
 refine(Ak w.heap.size r1.2 a (1099511627776+k) _ f1).mono ?_
 rintro e w2 ⟨rfl,f2,k2⟩
 generalize e2:mulS r1.2 a (1099511627776+k)=r2 at f2 ⊢
 have E2:Hid _:=e2
 clear e2
 have K2:Below w.heap.size w w2:=k2.on K1 (by omega)
 have z2:=f2.lies
 clear K1 f1 k2
 rcases Bool.eq_false_or_eq_true r2.2 with hc1 |hc1
 ·have Hhc1:Hid (r2.2=true):=hc1
  have c3_B0:=f2.cell
  go_wp2
  clear c3_B0
  go_ret
  have hs:EY a k=false:=by unfold EY;simp only[E1.out,E2.out];rw[if_pos Hhc1.out]
  rw[hs]
  exact⟨rfl,K2⟩
 ·have Hhc1:Hid (r2.2=false):=hc1
  by_cases hc2:r1.1≥7232738120604
  ·have Hhc2:Hid (r1.1≥7232738120604):=hc2
   have c3_B0:=f2.cell
   go_wp2
   clear c3_B0
   go_ret
   have hs:EY a k=(decide (r2.1<=9211859050600)):=by unfold EY;simp only[E1.out,E2.out];rw[if_neg (by rw[Hhc1.out];decide)];rw[if_pos (by have:=Hhc2.out;omega)]
   rw[hs]
   exact⟨rfl,K2⟩
  ·have Hhc2:Hid (¬r1.1≥7232738120604):=hc2
   have c3_B0:=f2.cell
   go_wp2
   clear c3_B0
   go_ret
   have hs:EY a k=false:=by unfold EY;simp only[E1.out,E2.out];rw[if_neg (by rw[Hhc1.out];decide)];rw[if_neg (by have:=Hhc2.out;omega)]
   rw[hs]
   exact⟨rfl,K2⟩
theorem Lu(a:Int)(w:World):
    Calls Tryz.prog 92 #[.int .i64 a] w fun e w'=>e=.returned (.bool (oAngC a))/\Below w.heap.size w w':=by
 go_enter Tryz.func92,Tryz.ntmps92
 by_cases hc1:(-6908435304716)<=a
 ·have Hhc1:Hid ((-6908435304716)<=a):=hc1
  go_wp2
  go_ret
  have hs:oAngC a=(decide (a<=6908435304716)):=by unfold oAngC;rw[if_pos (by have:=Hhc1.out;omega)]
  rw[hs]
  exact⟨rfl,(Below.refl w.heap.size w)⟩
 ·have Hhc1:Hid (¬(-6908435304716)<=a):=hc1
  go_wp2
  go_ret
  have hs:oAngC a=false:=by unfold oAngC;rw[if_neg (by have:=Hhc1.out;omega)]
  rw[hs]
  exact⟨rfl,(Below.refl w.heap.size w)⟩
theorem JJ(o:V7)(w:World):
    Calls Tryz.prog 71 #[.agg #[.int .i64 o.1,.int .i64 o.2.1,.int .i64 o.2.2.1,.int .i64 o.2.2.2.1,.int .i64 o.2.2.2.2.1,.int .i64 o.2.2.2.2.2.1,.int .i64 o.2.2.2.2.2.2]] w fun e w'=>e=.returned (.bool (AA o))/\Below w.heap.size w w':=by
 go_enter Tryz.func71,Tryz.ntmps71
 by_cases hc1:0<=o.2.1
 ·have Hhc1:Hid (0<=o.2.1):=hc1
  by_cases hc2:o.2.1<=109951162777
  ·have Hhc2:Hid (o.2.1<=109951162777):=hc2
   go_wp2_with fail
   refine(Adv o.1 o.2.1 _ (by omega) (by omega)).mono ?_
   rintro e w1 ⟨rfl,k1⟩
   generalize e1:EY o.1 o.2.1=r1
   have E1:Hid _:=e1
   clear e1
   have K1:Below w.heap.size w w1:=Au (Ai (Below.refl w.heap.size w) _) k1
   have B0_1:=(Am _ w.heap.size [.int .i64 o.1,.int .i64 o.2.1,.int .i64 o.2.2.1,.int .i64 o.2.2.2.1,.int .i64 o.2.2.2.2.1,.int .i64 o.2.2.2.2.2.1,.int .i64 o.2.2.2.2.2.2] _ (by simp)).below k1
   have z1:=B0_1.lies
   clear k1
   rcases Bool.eq_false_or_eq_true r1 with hc3 |hc3
   ·have Hhc3:Hid (r1=true):=hc3
    by_cases hc4:0<=o.2.2.1
    ·have Hhc4:Hid (0<=o.2.2.1):=hc4
     by_cases hc5:o.2.2.1<=3454217652358
     ·have Hhc5:Hid (o.2.2.1<=3454217652358):=hc5
      have c2_B0_2:w1.cell? ⟨w.heap.size,2,none⟩=some (.int .i64 o.2.2.1):=B0_1.c 2 (zD rfl)
      have c2_B0_3:w1.cell? ⟨w.heap.size,3,none⟩=some (.int .i64 o.2.2.2.1):=B0_1.c 3 (zD rfl)
      go_wp2_with fail
      refine(Lu o.2.2.2.1 _).mono ?_
      rintro e w2 ⟨rfl,k2⟩
      generalize e2:oAngC o.2.2.2.1=r2
      have E2:Hid _:=e2
      clear e2
      have K2:Below w.heap.size w w2:=Au K1 k2
      have B0_2:=B0_1.below k2
      have z2:=B0_2.lies
      clear c2_B0_2 c2_B0_3 K1 B0_1 k2
      rcases Bool.eq_false_or_eq_true r2 with hc6 |hc6
      ·have Hhc6:Hid (r2=true):=hc6
       have c3_B0_4:w2.cell? ⟨w.heap.size,4,none⟩=some (.int .i64 o.2.2.2.2.1):=B0_2.c 4 (zD rfl)
       go_wp2_with fail
       refine(Lu o.2.2.2.2.1 _).mono ?_
       rintro e w3 ⟨rfl,k3⟩
       generalize e3:oAngC o.2.2.2.2.1=r3
       have E3:Hid _:=e3
       clear e3
       have K3:Below w.heap.size w w3:=Au K2 k3
       have B0_3:=B0_2.below k3
       have z3:=B0_3.lies
       clear c3_B0_4 K2 B0_2 k3
       rcases Bool.eq_false_or_eq_true r3 with hc7 |hc7
       ·have Hhc7:Hid (r3=true):=hc7
        have c4_B0_5:w3.cell? ⟨w.heap.size,5,none⟩=some (.int .i64 o.2.2.2.2.2.1):=B0_3.c 5 (zD rfl)
        go_wp2_with fail
        refine(Lu o.2.2.2.2.2.1 _).mono ?_
        rintro e w4 ⟨rfl,k4⟩
        generalize e4:oAngC o.2.2.2.2.2.1=r4
        have E4:Hid _:=e4
        clear e4
        have K4:Below w.heap.size w w4:=Au K3 k4
        have B0_4:=B0_3.below k4
        have z4:=B0_4.lies
        clear c4_B0_5 K3 B0_3 k4
        rcases Bool.eq_false_or_eq_true r4 with hc8 |hc8
        ·have Hhc8:Hid (r4=true):=hc8
         have c5_B0_6:w4.cell? ⟨w.heap.size,6,none⟩=some (.int .i64 o.2.2.2.2.2.2):=B0_4.c 6 (zD rfl)
         go_wp2_with fail
         refine(Bq o.2.2.2.2.2.2 _).mono ?_
         rintro e w5 ⟨rfl,k5⟩
         generalize e5:cRight o.2.2.2.2.2.2=r5
         have E5:Hid _:=e5
         clear e5
         have K5:Below w.heap.size w w5:=Au K4 k5
         have B0_5:=B0_4.below k5
         have z5:=B0_5.lies
         clear c5_B0_6 K4 B0_4 k5
         go_wp2
         go_ret
         have hs:AA o=r5:=by unfold AA;simp only[E1.out,E2.out,E3.out,E4.out,E5.out];rw[if_pos (by have:=Hhc1.out;omega)];rw[if_pos (by have:=Hhc2.out;omega)];rw[if_pos Hhc3.out];rw[if_pos (by have:=Hhc4.out;omega)];rw[if_pos (by have:=Hhc5.out;omega)];rw[if_pos Hhc6.out];rw[if_pos Hhc7.out];rw[if_pos Hhc8.out]
         rw[hs]
         exact⟨rfl,K5⟩
        ·have Hhc8:Hid (r4=false):=hc8
         go_wp2
         go_ret
         have hs:AA o=false:=by unfold AA;simp only[E1.out,E2.out,E3.out,E4.out];rw[if_pos (by have:=Hhc1.out;omega)];rw[if_pos (by have:=Hhc2.out;omega)];rw[if_pos Hhc3.out];rw[if_pos (by have:=Hhc4.out;omega)];rw[if_pos (by have:=Hhc5.out;omega)];rw[if_pos Hhc6.out];rw[if_pos Hhc7.out];rw[if_neg (by rw[Hhc8.out];decide)]
         rw[hs]
         exact⟨rfl,K4⟩
       ·have Hhc7:Hid (r3=false):=hc7
        go_wp2
        go_ret
        have hs:AA o=false:=by unfold AA;simp only[E1.out,E2.out,E3.out];rw[if_pos (by have:=Hhc1.out;omega)];rw[if_pos (by have:=Hhc2.out;omega)];rw[if_pos Hhc3.out];rw[if_pos (by have:=Hhc4.out;omega)];rw[if_pos (by have:=Hhc5.out;omega)];rw[if_pos Hhc6.out];rw[if_neg (by rw[Hhc7.out];decide)]
        rw[hs]
        exact⟨rfl,K3⟩
      ·have Hhc6:Hid (r2=false):=hc6
       go_wp2
       go_ret
       have hs:AA o=false:=by unfold AA;simp only[E1.out,E2.out];rw[if_pos (by have:=Hhc1.out;omega)];rw[if_pos (by have:=Hhc2.out;omega)];rw[if_pos Hhc3.out];rw[if_pos (by have:=Hhc4.out;omega)];rw[if_pos (by have:=Hhc5.out;omega)];rw[if_neg (by rw[Hhc6.out];decide)]
       rw[hs]
       exact⟨rfl,K2⟩
     ·have Hhc5:Hid (¬o.2.2.1<=3454217652358):=hc5
      have c2_B0_2:w1.cell? ⟨w.heap.size,2,none⟩=some (.int .i64 o.2.2.1):=B0_1.c 2 (zD rfl)
      go_wp2
      clear c2_B0_2
      go_ret
      have hs:AA o=false:=by unfold AA;simp only[E1.out];rw[if_pos (by have:=Hhc1.out;omega)];rw[if_pos (by have:=Hhc2.out;omega)];rw[if_pos Hhc3.out];rw[if_pos (by have:=Hhc4.out;omega)];rw[if_neg (by have:=Hhc5.out;omega)]
      rw[hs]
      exact⟨rfl,K1⟩
    ·have Hhc4:Hid (¬0<=o.2.2.1):=hc4
     have c2_B0_2:w1.cell? ⟨w.heap.size,2,none⟩=some (.int .i64 o.2.2.1):=B0_1.c 2 (zD rfl)
     go_wp2
     clear c2_B0_2
     go_ret
     have hs:AA o=false:=by unfold AA;simp only[E1.out];rw[if_pos (by have:=Hhc1.out;omega)];rw[if_pos (by have:=Hhc2.out;omega)];rw[if_pos Hhc3.out];rw[if_neg (by have:=Hhc4.out;omega)]
     rw[hs]
     exact⟨rfl,K1⟩
   ·have Hhc3:Hid (r1=false):=hc3
    go_wp2
    go_ret
    have hs:AA o=false:=by unfold AA;simp only[E1.out];rw[if_pos (by have:=Hhc1.out;omega)];rw[if_pos (by have:=Hhc2.out;omega)];rw[if_neg (by rw[Hhc3.out];decide)]
    rw[hs]
    exact⟨rfl,K1⟩
  ·have Hhc2:Hid (¬o.2.1<=109951162777):=hc2
   go_wp2
   go_ret
   have hs:AA o=false:=by unfold AA;rw[if_pos (by have:=Hhc1.out;omega)];rw[if_neg (by have:=Hhc2.out;omega)]
   rw[hs]
   exact⟨rfl,(Ai (Below.refl w.heap.size w) _)⟩
 ·have Hhc1:Hid (¬0<=o.2.1):=hc1
  go_wp2
  go_ret
  have hs:AA o=false:=by unfold AA;rw[if_neg (by have:=Hhc1.out;omega)]
  rw[hs]
  exact⟨rfl,(Ai (Below.refl w.heap.size w) _)⟩
theorem OF(w:World)(B k:Nat)(a b:Int)(hk:k=w.heap.size)(h:B<=w.heap.size):Bg B (w.alloc (.cells #[.int .u8 a,.int .u8 b] 5)) (.slice (some ⟨k,0,none⟩) 2 2) [a,b]:=by
 subst hk
 exact World.ownsRow_lit w #[.int .u8 a,.int .u8 b] 2 h (by unfold maxLen;omega) rfl
theorem YD(q c:Int)(o:V7)(w:World)(h:q<0):
    Calls Tryz.prog 50 #[.agg #[.int .i64 q,.int .i64 c,.int .i64 o.1,.int .i64 o.2.1,.int .i64 o.2.2.1,.int .i64 o.2.2.2.1,.int .i64 o.2.2.2.2.1,.int .i64 o.2.2.2.2.2.1,.int .i64 o.2.2.2.2.2.2]] w fun e w'=>e=.returned (.tuple #[.agg #[.int .i64 0,.string ⟨#[]⟩],.bool false])/\Below w.heap.size w w':=by
 go_enter Tryz.func50,Tryz.ntmps50
 go_wp2_with (with_reducible refine Ae ?_)
 exact⟨bodyPost_ret (v:=.tuple #[.agg #[.int .i64 0,.string ⟨#[]⟩],.bool false]) (by simp[results_cell_tmp Tryz.results50,asAddr,go_sem]) rfl ⟨rfl,Ai (Ai (Below.refl _ _) _) _⟩⟩
theorem YE(q c:Int)(o:V7)(w:World)(h:255<q):
    Calls Tryz.prog 50 #[.agg #[.int .i64 q,.int .i64 c,.int .i64 o.1,.int .i64 o.2.1,.int .i64 o.2.2.1,.int .i64 o.2.2.2.1,.int .i64 o.2.2.2.2.1,.int .i64 o.2.2.2.2.2.1,.int .i64 o.2.2.2.2.2.2]] w fun e w'=>e=.returned (.tuple #[.agg #[.int .i64 0,.string ⟨#[]⟩],.bool false])/\Below w.heap.size w w':=by
 go_enter Tryz.func50,Tryz.ntmps50
 go_wp2_with (with_reducible refine Ae ?_)
 exact⟨bodyPost_ret (v:=.tuple #[.agg #[.int .i64 0,.string ⟨#[]⟩],.bool false]) (by simp[results_cell_tmp Tryz.results50,asAddr,go_sem]) rfl ⟨rfl,Ai (Ai (Below.refl _ _) _) _⟩⟩
theorem QL(q c:Int)(o:V7)(w:World)(h0:0<=q)(h1:q<=255)(h:DK c=0):
    Calls Tryz.prog 50 #[.agg #[.int .i64 q,.int .i64 c,.int .i64 o.1,.int .i64 o.2.1,.int .i64 o.2.2.1,.int .i64 o.2.2.2.1,.int .i64 o.2.2.2.2.1,.int .i64 o.2.2.2.2.2.1,.int .i64 o.2.2.2.2.2.2]] w fun e w'=>e=.returned (.tuple #[.agg #[.int .i64 0,.string ⟨#[]⟩],.bool false])/\Below w.heap.size w w':=by
 have hs:=Er c
 rw[h]at hs
 go_enter Tryz.func50,Tryz.ntmps50
 go_wp2_with (go_at_call 70;refine(hs _).mono ?_;rintro e X ⟨rfl,rfl⟩)
 skip
 go_wp2_with (with_reducible refine Ae ?_)
 exact⟨bodyPost_ret (v:=.tuple #[.agg #[.int .i64 0,.string ⟨#[]⟩],.bool false]) (by simp[results_cell_tmp Tryz.results50,asAddr,go_sem]) rfl ⟨rfl,Ai (Ai (Below.refl _ _) _) _⟩⟩
theorem OG(q c:Int)(o:V7)(w:World)(h0:0<=q)(h1:q<=255)(hc0:1<=c)(hc1:c<=4)(h3:c≠3):
    Calls Tryz.prog 50 #[.agg #[.int .i64 q,.int .i64 c,.int .i64 o.1,.int .i64 o.2.1,.int .i64 o.2.2.1,.int .i64 o.2.2.2.1,.int .i64 o.2.2.2.2.1,.int .i64 o.2.2.2.2.2.1,.int .i64 o.2.2.2.2.2.2]] w fun e w'=>e=.returned (.tuple #[.agg #[.int .i64 16,.string (strOf (Lt q c o))],.bool true])/\Below w.heap.size w w':=by
 have hs:=Er c
 rw[show DK c=2 by unfold DK;rw[if_pos (by omega)]]at hs
 have HL:Hid (Lt q c o=[q,c]):=by show _=_;unfold Lt;rw[if_neg h3]
 have O0:=OF ((w.alloc (.cells #[.int .i64 q,.int .i64 c,.int .i64 o.1,.int .i64 o.2.1,.int .i64 o.2.2.1,.int .i64 o.2.2.2.1,.int .i64 o.2.2.2.2.1,.int .i64 o.2.2.2.2.2.1,.int .i64 o.2.2.2.2.2.2] 83)).alloc (.cells #[.int .i64 0,.string ⟨#[]⟩] 77)) (w.heap.size+2) (w.heap.size+1+1) q c (by simp) (by simp)
 have hcv:=C9 O0 (by simp) (fun b hb=>by simp only[List.mem_cons,List.not_mem_nil,or_false]at hb;rcases hb with rfl |rfl<;>omega)
 clear O0
 have w1:IntKind.u8.wrap q=q:=by rw[IntKind.wrap_u8];omega
 have w2:IntKind.u8.wrap c=c:=by rw[IntKind.wrap_u8];omega
 rw[HL.out]
 generalize strOf [q,c]=S at *
 go_enter Tryz.func50,Tryz.ntmps50
 go_wp2_with (go_at_call 70;refine(hs _).mono ?_;rintro e X ⟨rfl,rfl⟩)
 go_wp2_with (with_reducible refine Ae ?_)
 exact⟨bodyPost_ret (v:=.tuple #[.agg #[.int .i64 16,.string S],.bool true]) (by simp[results_cell_tmp Tryz.results50,asAddr,go_sem]) rfl ⟨rfl,Ai (Ai (Ai (Below.refl _ _) _) _) _⟩⟩
theorem Tn(q c:Int)(o:V7)(w:World)(h0:0<=q)(h1:q<=255)(h3:c=3)(hR:AA o=false):
    Calls Tryz.prog 50 #[.agg #[.int .i64 q,.int .i64 c,.int .i64 o.1,.int .i64 o.2.1,.int .i64 o.2.2.1,.int .i64 o.2.2.2.1,.int .i64 o.2.2.2.2.1,.int .i64 o.2.2.2.2.2.1,.int .i64 o.2.2.2.2.2.2]] w fun e w'=>e=.returned (.tuple #[.agg #[.int .i64 0,.string ⟨#[]⟩],.bool false])/\Below w.heap.size w w':=by
 subst h3
 have hs:=Er 3
 rw[show DK 3=58 from rfl]at hs
 have hr:=JJ o
 rw[hR]at hr
 have w1:IntKind.u8.wrap q=q:=by rw[IntKind.wrap_u8];omega
 go_enter Tryz.func50,Tryz.ntmps50
 go_wp2_with (go_at_call 70;refine(hs _).mono ?_;rintro e X ⟨rfl,rfl⟩)
 refine(hr _).mono ?_
 rintro e W1 ⟨rfl,b1⟩
 have L1:=Au (Ai (Ai (Ai (Below.refl _ w) _) _) _) b1
 have A1:=(((Am w w.heap.size [.int .i64 q,.int .i64 3,.int .i64 o.1,.int .i64 o.2.1,.int .i64 o.2.2.1,.int .i64 o.2.2.2.1,.int .i64 o.2.2.2.2.1,.int .i64 o.2.2.2.2.2.1,.int .i64 o.2.2.2.2.2.2] 83 rfl).alloc (.cells #[.int .i64 0,.string ⟨#[]⟩] 77)).alloc (.cells #[.int .u8 q,.int .u8 3] 5)).below b1
 have R1:=((Am (w.alloc (.cells #[.int .i64 q,.int .i64 3,.int .i64 o.1,.int .i64 o.2.1,.int .i64 o.2.2.1,.int .i64 o.2.2.2.1,.int .i64 o.2.2.2.2.1,.int .i64 o.2.2.2.2.2.1,.int .i64 o.2.2.2.2.2.2] 83)) (w.heap.size+1) [.int .i64 0,.string ⟨#[]⟩] 77 (by simp)).alloc (.cells #[.int .u8 q,.int .u8 3] 5)).below b1
 have c0:W1.cell? ⟨w.heap.size+1,0,none⟩=some (.int .i64 0):=R1.c 0 (zD rfl)
 have c1:W1.cell? ⟨w.heap.size+1,1,none⟩=some (.string ⟨#[]⟩):=R1.c 1 (zD rfl)
 have f0:=R1.f 0 (zD rfl)
 have f1:=R1.f 1 (zD rfl)
 clear A1 b1
 go_wp2_with (with_reducible refine Ae ?_)
 have d0:=Ap.c ((R1.put 0 (zD rfl) (.int .i64 0) [.int .i64 0,.string ⟨#[]⟩] rfl).put 1 (zD rfl) (.string ⟨#[]⟩) [.int .i64 0,.string ⟨#[]⟩] rfl) 0 (zD rfl)
 have d1:=Ap.c ((R1.put 0 (zD rfl) (.int .i64 0) [.int .i64 0,.string ⟨#[]⟩] rfl).put 1 (zD rfl) (.string ⟨#[]⟩) [.int .i64 0,.string ⟨#[]⟩] rfl) 1 (zD rfl)
 simp only[List.getElem_cons_zero,List.getElem_cons_succ]at d0 d1
 exact⟨bodyPost_ret (v:=.tuple #[.agg #[.int .i64 0,.string ⟨#[]⟩],.bool false]) (by simp[results_cell_tmp Tryz.results50,asAddr,go_sem,d0,d1]) rfl ⟨rfl,Al (Al L1 _ _ (by omega) _) _ _ (by omega) _⟩⟩
theorem QM(q c:Int)(o:V7)(w:World)(h0:0<=q)(h1:q<=255)(h3:c=3)(hR:AA o=true):
    Calls Tryz.prog 50 #[.agg #[.int .i64 q,.int .i64 c,.int .i64 o.1,.int .i64 o.2.1,.int .i64 o.2.2.1,.int .i64 o.2.2.2.1,.int .i64 o.2.2.2.2.1,.int .i64 o.2.2.2.2.2.1,.int .i64 o.2.2.2.2.2.2]] w fun e w'=>e=.returned (.tuple #[.agg #[.int .i64 16,.string (strOf (Lt q c o))],.bool true])/\Below w.heap.size w w':=by
 subst h3
 have hs:=Er 3
 rw[show DK 3=58 from rfl]at hs
 have hr:=JJ o
 rw[hR]at hr
 have w1:IntKind.u8.wrap q=q:=by rw[IntKind.wrap_u8];omega
 have HL:Hid (Lt q 3 o=elsL [q,3] (v7F o) 7):=rfl
 have O0:=OF ((w.alloc (.cells #[.int .i64 q,.int .i64 3,.int .i64 o.1,.int .i64 o.2.1,.int .i64 o.2.2.1,.int .i64 o.2.2.2.1,.int .i64 o.2.2.2.2.1,.int .i64 o.2.2.2.2.2.1,.int .i64 o.2.2.2.2.2.2] 83)).alloc (.cells #[.int .i64 0,.string ⟨#[]⟩] 77)) (w.heap.size+2) (w.heap.size+1+1) q 3 (by simp) (by simp)
 rw[HL.out]
 generalize hS:strOf (elsL [q,3] (v7F o) 7)=S
 have HS:Hid (strOf (elsL [q,3] (v7F o) 7)=S):=hS
 clear hS
 go_enter Tryz.func50,Tryz.ntmps50
 go_wp2_with (go_at_call 70;refine(hs _).mono ?_;rintro e X ⟨rfl,rfl⟩)
 refine(hr _).mono ?_
 rintro e W1 ⟨rfl,b1⟩
 have L1:=Au (Ai (Ai (Ai (Below.refl _ w) _) _) _) b1
 have A1:=(((Am w w.heap.size [.int .i64 q,.int .i64 3,.int .i64 o.1,.int .i64 o.2.1,.int .i64 o.2.2.1,.int .i64 o.2.2.2.1,.int .i64 o.2.2.2.2.1,.int .i64 o.2.2.2.2.2.1,.int .i64 o.2.2.2.2.2.2] 83 rfl).alloc (.cells #[.int .i64 0,.string ⟨#[]⟩] 77)).alloc (.cells #[.int .u8 q,.int .u8 3] 5)).below b1
 have R1:=((Am (w.alloc (.cells #[.int .i64 q,.int .i64 3,.int .i64 o.1,.int .i64 o.2.1,.int .i64 o.2.2.1,.int .i64 o.2.2.2.1,.int .i64 o.2.2.2.2.1,.int .i64 o.2.2.2.2.2.1,.int .i64 o.2.2.2.2.2.2] 83)) (w.heap.size+1) [.int .i64 0,.string ⟨#[]⟩] 77 (by simp)).alloc (.cells #[.int .u8 q,.int .u8 3] 5)).below b1
 have O1:=O0.same b1
 clear O0
 have z1:=L1.size
 have rz1:=R1.lies
 have a2:W1.cell? ⟨w.heap.size,2,none⟩=some (.int .i64 o.1):=A1.c 2 (zD rfl)
 have a3:W1.cell? ⟨w.heap.size,3,none⟩=some (.int .i64 o.2.1):=A1.c 3 (zD rfl)
 have a4:W1.cell? ⟨w.heap.size,4,none⟩=some (.int .i64 o.2.2.1):=A1.c 4 (zD rfl)
 have a5:W1.cell? ⟨w.heap.size,5,none⟩=some (.int .i64 o.2.2.2.1):=A1.c 5 (zD rfl)
 have a6:W1.cell? ⟨w.heap.size,6,none⟩=some (.int .i64 o.2.2.2.2.1):=A1.c 6 (zD rfl)
 have a7:W1.cell? ⟨w.heap.size,7,none⟩=some (.int .i64 o.2.2.2.2.2.1):=A1.c 7 (zD rfl)
 have a8:W1.cell? ⟨w.heap.size,8,none⟩=some (.int .i64 o.2.2.2.2.2.2):=A1.c 8 (zD rfl)
 clear b1 A1
 go_wp2_with fail
 refine(Adu (w.heap.size+2) _ [q,3] o _ O1 (by omega) (by simp)).mono ?_
 rintro e W2 ⟨v2,rfl,O2,b2,s2⟩
 have L2:=L1.trans (b2.mono (by omega))
 have R2:=R1.under b2 (by omega) s2
 have rz2:=R2.lies
 have hcv:=C9 O2 (by intro h;have:=congrArg List.length h;rw[Co]at this;simp at this) (Ls (by intro b hb;simp only[List.mem_cons,List.not_mem_nil,or_false]at hb;rcases hb with rfl |rfl<;>omega) _ 7)
 rw[HS.out]at hcv
 clear O1 O2 L1 R1 b2 a2 a3 a4 a5 a6 a7 a8
 have c0:W2.cell? ⟨w.heap.size+1,0,none⟩=some (.int .i64 0):=R2.c 0 (zD rfl)
 have c1:W2.cell? ⟨w.heap.size+1,1,none⟩=some (.string ⟨#[]⟩):=R2.c 1 (zD rfl)
 have f0:=R2.f 0 (zD rfl)
 have f1:=R2.f 1 (zD rfl)
 go_wp2_with (with_reducible refine Ae ?_)
 have d0:=Ap.c ((R2.put 0 (zD rfl) (.int .i64 16) [.int .i64 16,.string ⟨#[]⟩] rfl).put 1 (zD rfl) (.string S) [.int .i64 16,.string S] rfl) 0 (zD rfl)
 have d1:=Ap.c ((R2.put 0 (zD rfl) (.int .i64 16) [.int .i64 16,.string ⟨#[]⟩] rfl).put 1 (zD rfl) (.string S) [.int .i64 16,.string S] rfl) 1 (zD rfl)
 simp only[List.getElem_cons_zero,List.getElem_cons_succ]at d0 d1
 exact⟨bodyPost_ret (v:=.tuple #[.agg #[.int .i64 16,.string S],.bool true]) (by simp[results_cell_tmp Tryz.results50,asAddr,go_sem,d0,d1]) rfl ⟨rfl,Al (Al L2 _ _ (by omega) _) _ _ (by omega) _⟩⟩
theorem To(q c:Int)(o:V7)(w:World):
    Calls Tryz.prog 50 #[.agg #[.int .i64 q,.int .i64 c,.int .i64 o.1,.int .i64 o.2.1,.int .i64 o.2.2.1,.int .i64 o.2.2.2.1,.int .i64 o.2.2.2.2.1,.int .i64 o.2.2.2.2.2.1,.int .i64 o.2.2.2.2.2.2]] w fun e w'=>e=.returned (.tuple #[.agg #[.int .i64 (Tk q c o).1,.string (Tk q c o).2],.bool (BQ q c o)])/\Below w.heap.size w w':=by
 unfold Tk
 by_cases a:q<0
 ·have e:BQ q c o=false:=by unfold BQ;simp;omega
  rw[e]
  exact YD q c o w a
 by_cases b:255<q
 ·have e:BQ q c o=false:=by unfold BQ;simp;omega
  rw[e]
  exact YE q c o w b
 by_cases d:c<1∨4<c
 ·have e:BQ q c o=false:=by unfold BQ;simp;omega
  rw[e]
  exact QL q c o w (by omega) (by omega) (by unfold DK;rw[if_neg (by omega),if_neg (by omega)])
 by_cases t:c=3
 ·cases r:AA o
  ·have e:BQ q c o=false:=by unfold BQ;rw[r];simp[t]
   rw[e]
   exact Tn q c o w (by omega) (by omega) t r
  ·have e:BQ q c o=true:=by unfold BQ;rw[r];simp;omega
   rw[e]
   exact QM q c o w (by omega) (by omega) t r
 ·have e:BQ q c o=true:=by unfold BQ;simp[t];omega
  rw[e]
  exact OG q c o w (by omega) (by omega) (by omega) (by omega) t
theorem Lv(a:Int)(w:World):
    Calls Tryz.prog 56 #[.int .i64 a] w fun e w'=>e=.returned (.bool (FF a))/\Below w.heap.size w w':=by
 go_enter Tryz.func56,Tryz.ntmps56
 by_cases hc1:a≥(-6908435304716)
 ·have Hhc1:Hid (a≥(-6908435304716)):=hc1
  go_wp2
  go_ret
  have hs:FF a=(decide (a<=6908435304716)):=by unfold FF;rw[if_pos (by have:=Hhc1.out;omega)]
  rw[hs]
  exact⟨rfl,(Below.refl w.heap.size w)⟩
 ·have Hhc1:Hid (¬a≥(-6908435304716)):=hc1
  go_wp2
  go_ret
  have hs:FF a=false:=by unfold FF;rw[if_neg (by have:=Hhc1.out;omega)]
  rw[hs]
  exact⟨rfl,(Below.refl w.heap.size w)⟩
theorem QN (o:V7)(w:World):
    Calls Tryz.prog 42 #[.agg #[.int .i64 o.1,.int .i64 o.2.1,.int .i64 o.2.2.1,.int .i64 o.2.2.2.1,.int .i64 o.2.2.2.2.1,.int .i64 o.2.2.2.2.2.1,.int .i64 o.2.2.2.2.2.2]] w fun e w'=>e=.returned (.bool (AZ o))/\Below w.heap.size w w':=by
 go_enter Tryz.func42,Tryz.ntmps42
 by_cases hc1:o.2.1<0
 ·have Hhc1:Hid (o.2.1<0):=hc1
  go_wp2
  go_ret
  have hs:AZ o=false:=by unfold AZ;rw[if_pos (by have:=Hhc1.out;omega)]
  rw[hs]
  exact⟨rfl,(Ai (Below.refl w.heap.size w) _)⟩
 ·have Hhc1:Hid (¬o.2.1<0):=hc1
  by_cases hc2:o.2.1>109951162777
  ·have Hhc2:Hid (o.2.1>109951162777):=hc2
   go_wp2
   go_ret
   have hs:AZ o=false:=by unfold AZ;rw[if_neg (by have:=Hhc1.out;omega)];rw[if_pos (by have:=Hhc2.out;omega)]
   rw[hs]
   exact⟨rfl,(Ai (Below.refl w.heap.size w) _)⟩
  ·have Hhc2:Hid (¬o.2.1>109951162777):=hc2
   by_cases hc3:o.2.2.1<0
   ·have Hhc3:Hid (o.2.2.1<0):=hc3
    go_wp2
    go_ret
    have hs:AZ o=false:=by unfold AZ;rw[if_neg (by have:=Hhc1.out;omega)];rw[if_neg (by have:=Hhc2.out;omega)];rw[if_pos (by have:=Hhc3.out;omega)]
    rw[hs]
    exact⟨rfl,(Ai (Below.refl w.heap.size w) _)⟩
   ·have Hhc3:Hid (¬o.2.2.1<0):=hc3
    by_cases hc4:o.2.2.1>3454217652358
    ·have Hhc4:Hid (o.2.2.1>3454217652358):=hc4
     go_wp2
     go_ret
     have hs:AZ o=false:=by unfold AZ;rw[if_neg (by have:=Hhc1.out;omega)];rw[if_neg (by have:=Hhc2.out;omega)];rw[if_neg (by have:=Hhc3.out;omega)];rw[if_pos (by have:=Hhc4.out;omega)]
     rw[hs]
     exact⟨rfl,(Ai (Below.refl w.heap.size w) _)⟩
    ·have Hhc4:Hid (¬o.2.2.1>3454217652358):=hc4
     go_wp2_with fail
     refine(Lv o.2.2.2.1 _).mono ?_
     rintro e w1 ⟨rfl,k1⟩
     generalize e1:FF o.2.2.2.1=r1
     have E1:Hid _:=e1
     clear e1
     have K1:Below w.heap.size w w1:=Au (Ai (Below.refl w.heap.size w) _) k1
     have B0_1:=(Am _ w.heap.size [.int .i64 o.1,.int .i64 o.2.1,.int .i64 o.2.2.1,.int .i64 o.2.2.2.1,.int .i64 o.2.2.2.2.1,.int .i64 o.2.2.2.2.2.1,.int .i64 o.2.2.2.2.2.2] _ (by simp)).below k1
     have z1:=B0_1.lies
     clear k1
     rcases Bool.eq_false_or_eq_true r1 with hc5 |hc5
     ·have Hhc5:Hid (r1=true):=hc5
      have c2_B0_4:w1.cell? ⟨w.heap.size,4,none⟩=some (.int .i64 o.2.2.2.2.1):=B0_1.c 4 (zD rfl)
      go_wp2_with fail
      refine(Lv o.2.2.2.2.1 _).mono ?_
      rintro e w2 ⟨rfl,k2⟩
      generalize e2:FF o.2.2.2.2.1=r2
      have E2:Hid _:=e2
      clear e2
      have K2:Below w.heap.size w w2:=Au K1 k2
      have B0_2:=B0_1.below k2
      have z2:=B0_2.lies
      clear c2_B0_4 K1 B0_1 k2
      rcases Bool.eq_false_or_eq_true r2 with hc6 |hc6
      ·have Hhc6:Hid (r2=true):=hc6
       have c3_B0_5:w2.cell? ⟨w.heap.size,5,none⟩=some (.int .i64 o.2.2.2.2.2.1):=B0_2.c 5 (zD rfl)
       go_wp2_with fail
       refine(Lv o.2.2.2.2.2.1 _).mono ?_
       rintro e w3 ⟨rfl,k3⟩
       generalize e3:FF o.2.2.2.2.2.1=r3
       have E3:Hid _:=e3
       clear e3
       have K3:Below w.heap.size w w3:=Au K2 k3
       have B0_3:=B0_2.below k3
       have z3:=B0_3.lies
       clear c3_B0_5 K2 B0_2 k3
       rcases Bool.eq_false_or_eq_true r3 with hc7 |hc7
       ·have Hhc7:Hid (r3=true):=hc7
        have c4_B0_6:w3.cell? ⟨w.heap.size,6,none⟩=some (.int .i64 o.2.2.2.2.2.2):=B0_3.c 6 (zD rfl)
        go_wp2_with fail
        refine(Ht o.2.2.2.2.2.2 _).mono ?_
        rintro e w4 ⟨rfl,k4⟩
        generalize e4:cRight o.2.2.2.2.2.2=r4
        have E4:Hid _:=e4
        clear e4
        have K4:Below w.heap.size w w4:=Au K3 k4
        have B0_4:=B0_3.below k4
        have z4:=B0_4.lies
        clear c4_B0_6 K3 B0_3 k4
        rcases Bool.eq_false_or_eq_true r4 with hc8 |hc8
        ·have Hhc8:Hid (r4=true):=hc8
         have y2_B0:=B0_4.lies
         have c5_B0_0:w4.cell? ⟨w.heap.size,0,none⟩=some (.int .i64 o.1):=B0_4.c 0 (zD rfl)
         have c5_B0_1:w4.cell? ⟨w.heap.size,1,none⟩=some (.int .i64 o.2.1):=B0_4.c 1 (zD rfl)
         have l5_B0:=B0_4.lies
         go_wp2_with fail
         refine(QJ w4.heap.size false o.1 (1099511627776-o.2.1) _ (Anb _ _ _ _ (by simp))).mono ?_
         rintro e w5 ⟨rfl,f5,k5⟩
         generalize e5:mulS false o.1 (1099511627776-o.2.1)=r5 at f5 ⊢
         have E5:Hid _:=e5
         clear e5
         have K5:Below w.heap.size w w5:=k5.on (Ai K4 _) (by omega)
         have B0_5:=(B0_4.alloc _).kept k5 (zL y2_B0)
         have z5:=f5.lies
         clear c5_B0_0 c5_B0_1 l5_B0 K4 B0_4 k5
         have c6_B0_0:w5.cell? ⟨w.heap.size,0,none⟩=some (.int .i64 o.1):=B0_5.c 0 (zD rfl)
         have c6_B0_1:w5.cell? ⟨w.heap.size,1,none⟩=some (.int .i64 o.2.1):=B0_5.c 1 (zD rfl)
         go_wp2_with fail
         refine(QJ w4.heap.size r5.2 o.1 (1099511627776+o.2.1) _ f5).mono ?_
         rintro e w6 ⟨rfl,f6,k6⟩
         generalize e6:mulS r5.2 o.1 (1099511627776+o.2.1)=r6 at f6 ⊢
         have E6:Hid _:=e6
         clear e6
         have K6:Below w.heap.size w w6:=k6.on K5 (by omega)
         have B0_6:=B0_5.kept k6 (zL y2_B0)
         have z6:=f6.lies
         clear c6_B0_0 c6_B0_1 K5 B0_5 f5 k6
         rcases Bool.eq_false_or_eq_true r6.2 with hc9 |hc9
         ·have Hhc9:Hid (r6.2=true):=hc9
          have c7_B1:=f6.cell
          go_wp2
          clear c7_B1
          go_ret
          have hs:AZ o=false:=by unfold AZ;simp only[E1.out,E2.out,E3.out,E4.out,E5.out,E6.out];rw[if_neg (by have:=Hhc1.out;omega)];rw[if_neg (by have:=Hhc2.out;omega)];rw[if_neg (by have:=Hhc3.out;omega)];rw[if_neg (by have:=Hhc4.out;omega)];rw[if_pos Hhc5.out];rw[if_pos Hhc6.out];rw[if_pos Hhc7.out];rw[if_pos Hhc8.out];rw[if_pos Hhc9.out]
          rw[hs]
          exact⟨rfl,K6⟩
         ·have Hhc9:Hid (r6.2=false):=hc9
          by_cases hc10:r5.1≥7232738120604
          ·have Hhc10:Hid (r5.1≥7232738120604):=hc10
           have c7_B1:=f6.cell
           go_wp2
           clear c7_B1
           go_ret
           have hs:AZ o=(decide (r6.1<=9211859050600)):=by unfold AZ;simp only[E1.out,E2.out,E3.out,E4.out,E5.out,E6.out];rw[if_neg (by have:=Hhc1.out;omega)];rw[if_neg (by have:=Hhc2.out;omega)];rw[if_neg (by have:=Hhc3.out;omega)];rw[if_neg (by have:=Hhc4.out;omega)];rw[if_pos Hhc5.out];rw[if_pos Hhc6.out];rw[if_pos Hhc7.out];rw[if_pos Hhc8.out];rw[if_neg (by rw[Hhc9.out];decide)];rw[if_pos (by have:=Hhc10.out;omega)]
           rw[hs]
           exact⟨rfl,K6⟩
          ·have Hhc10:Hid (¬r5.1≥7232738120604):=hc10
           have c7_B1:=f6.cell
           go_wp2
           clear c7_B1
           go_ret
           have hs:AZ o=false:=by unfold AZ;simp only[E1.out,E2.out,E3.out,E4.out,E5.out,E6.out];rw[if_neg (by have:=Hhc1.out;omega)];rw[if_neg (by have:=Hhc2.out;omega)];rw[if_neg (by have:=Hhc3.out;omega)];rw[if_neg (by have:=Hhc4.out;omega)];rw[if_pos Hhc5.out];rw[if_pos Hhc6.out];rw[if_pos Hhc7.out];rw[if_pos Hhc8.out];rw[if_neg (by rw[Hhc9.out];decide)];rw[if_neg (by have:=Hhc10.out;omega)]
           rw[hs]
           exact⟨rfl,K6⟩
        ·have Hhc8:Hid (r4=false):=hc8
         go_wp2
         go_ret
         have hs:AZ o=false:=by unfold AZ;simp only[E1.out,E2.out,E3.out,E4.out];rw[if_neg (by have:=Hhc1.out;omega)];rw[if_neg (by have:=Hhc2.out;omega)];rw[if_neg (by have:=Hhc3.out;omega)];rw[if_neg (by have:=Hhc4.out;omega)];rw[if_pos Hhc5.out];rw[if_pos Hhc6.out];rw[if_pos Hhc7.out];rw[if_neg (by rw[Hhc8.out];decide)]
         rw[hs]
         exact⟨rfl,K4⟩
       ·have Hhc7:Hid (r3=false):=hc7
        go_wp2
        go_ret
        have hs:AZ o=false:=by unfold AZ;simp only[E1.out,E2.out,E3.out];rw[if_neg (by have:=Hhc1.out;omega)];rw[if_neg (by have:=Hhc2.out;omega)];rw[if_neg (by have:=Hhc3.out;omega)];rw[if_neg (by have:=Hhc4.out;omega)];rw[if_pos Hhc5.out];rw[if_pos Hhc6.out];rw[if_neg (by rw[Hhc7.out];decide)]
        rw[hs]
        exact⟨rfl,K3⟩
      ·have Hhc6:Hid (r2=false):=hc6
       go_wp2
       go_ret
       have hs:AZ o=false:=by unfold AZ;simp only[E1.out,E2.out];rw[if_neg (by have:=Hhc1.out;omega)];rw[if_neg (by have:=Hhc2.out;omega)];rw[if_neg (by have:=Hhc3.out;omega)];rw[if_neg (by have:=Hhc4.out;omega)];rw[if_pos Hhc5.out];rw[if_neg (by rw[Hhc6.out];decide)]
       rw[hs]
       exact⟨rfl,K2⟩
     ·have Hhc5:Hid (r1=false):=hc5
      go_wp2
      go_ret
      have hs:AZ o=false:=by unfold AZ;simp only[E1.out];rw[if_neg (by have:=Hhc1.out;omega)];rw[if_neg (by have:=Hhc2.out;omega)];rw[if_neg (by have:=Hhc3.out;omega)];rw[if_neg (by have:=Hhc4.out;omega)];rw[if_neg (by rw[Hhc5.out];decide)]
      rw[hs]
      exact⟨rfl,K1⟩
theorem Lw(o:V7)(w:World):Calls Tryz.prog 42 #[.agg #[.int .i64 o.1,.int .i64 o.2.1,.int .i64 o.2.2.1,.int .i64 o.2.2.2.1,.int .i64 o.2.2.2.2.1,.int .i64 o.2.2.2.2.2.1,.int .i64 o.2.2.2.2.2.2]] w fun e w'=>e=.returned (.bool (AA o))/\Below w.heap.size w w':=by
 have h:=QN o w
 rw[Tj]at h
 exact h
theorem YF(q c:Int)(o:V7)(w:World)(h:q<0):
    Calls Tryz.prog 23 #[.agg #[.int .i64 q,.int .i64 c,.int .i64 o.1,.int .i64 o.2.1,.int .i64 o.2.2.1,.int .i64 o.2.2.2.1,.int .i64 o.2.2.2.2.1,.int .i64 o.2.2.2.2.2.1,.int .i64 o.2.2.2.2.2.2]] w fun e w'=>e=.returned (.tuple #[.agg #[.int .i64 0,.string ⟨#[]⟩],.bool false])/\Below w.heap.size w w':=by
 go_enter Tryz.func23,Tryz.ntmps23
 go_wp2_with (with_reducible refine Ae ?_)
 exact⟨bodyPost_ret (v:=.tuple #[.agg #[.int .i64 0,.string ⟨#[]⟩],.bool false]) (by simp[results_cell_tmp Tryz.results23,asAddr,go_sem]) rfl ⟨rfl,Ai (Ai (Below.refl _ _) _) _⟩⟩
theorem YG(q c:Int)(o:V7)(w:World)(h:255<q):
    Calls Tryz.prog 23 #[.agg #[.int .i64 q,.int .i64 c,.int .i64 o.1,.int .i64 o.2.1,.int .i64 o.2.2.1,.int .i64 o.2.2.2.1,.int .i64 o.2.2.2.2.1,.int .i64 o.2.2.2.2.2.1,.int .i64 o.2.2.2.2.2.2]] w fun e w'=>e=.returned (.tuple #[.agg #[.int .i64 0,.string ⟨#[]⟩],.bool false])/\Below w.heap.size w w':=by
 go_enter Tryz.func23,Tryz.ntmps23
 go_wp2_with (with_reducible refine Ae ?_)
 exact⟨bodyPost_ret (v:=.tuple #[.agg #[.int .i64 0,.string ⟨#[]⟩],.bool false]) (by simp[results_cell_tmp Tryz.results23,asAddr,go_sem]) rfl ⟨rfl,Ai (Ai (Below.refl _ _) _) _⟩⟩
theorem YH(q c:Int)(o:V7)(w:World)(h0:0<=q)(h1:q<=255)(h:c<1):
    Calls Tryz.prog 23 #[.agg #[.int .i64 q,.int .i64 c,.int .i64 o.1,.int .i64 o.2.1,.int .i64 o.2.2.1,.int .i64 o.2.2.2.1,.int .i64 o.2.2.2.2.1,.int .i64 o.2.2.2.2.2.1,.int .i64 o.2.2.2.2.2.2]] w fun e w'=>e=.returned (.tuple #[.agg #[.int .i64 0,.string ⟨#[]⟩],.bool false])/\Below w.heap.size w w':=by
 go_enter Tryz.func23,Tryz.ntmps23
 go_wp2_with (with_reducible refine Ae ?_)
 exact⟨bodyPost_ret (v:=.tuple #[.agg #[.int .i64 0,.string ⟨#[]⟩],.bool false]) (by simp[results_cell_tmp Tryz.results23,asAddr,go_sem]) rfl ⟨rfl,Ai (Ai (Below.refl _ _) _) _⟩⟩
theorem YI(q c:Int)(o:V7)(w:World)(h0:0<=q)(h1:q<=255)(h2:1<=c)(h:4<c):
    Calls Tryz.prog 23 #[.agg #[.int .i64 q,.int .i64 c,.int .i64 o.1,.int .i64 o.2.1,.int .i64 o.2.2.1,.int .i64 o.2.2.2.1,.int .i64 o.2.2.2.2.1,.int .i64 o.2.2.2.2.2.1,.int .i64 o.2.2.2.2.2.2]] w fun e w'=>e=.returned (.tuple #[.agg #[.int .i64 0,.string ⟨#[]⟩],.bool false])/\Below w.heap.size w w':=by
 go_enter Tryz.func23,Tryz.ntmps23
 go_wp2_with (with_reducible refine Ae ?_)
 exact⟨bodyPost_ret (v:=.tuple #[.agg #[.int .i64 0,.string ⟨#[]⟩],.bool false]) (by simp[results_cell_tmp Tryz.results23,asAddr,go_sem]) rfl ⟨rfl,Ai (Ai (Below.refl _ _) _) _⟩⟩
theorem OH(q c:Int)(o:V7)(w:World)(h0:0<=q)(h1:q<=255)(hc0:1<=c)(hc1:c<=4)(h3:c≠3):
    Calls Tryz.prog 23 #[.agg #[.int .i64 q,.int .i64 c,.int .i64 o.1,.int .i64 o.2.1,.int .i64 o.2.2.1,.int .i64 o.2.2.2.1,.int .i64 o.2.2.2.2.1,.int .i64 o.2.2.2.2.2.1,.int .i64 o.2.2.2.2.2.2]] w fun e w'=>e=.returned (.tuple #[.agg #[.int .i64 16,.string (strOf (Lt q c o))],.bool true])/\Below w.heap.size w w':=by
 have HL:Hid (Lt q c o=[q,c]):=by show _=_;unfold Lt;rw[if_neg h3]
 have O0:=OF ((w.alloc (.cells #[.int .i64 q,.int .i64 c,.int .i64 o.1,.int .i64 o.2.1,.int .i64 o.2.2.1,.int .i64 o.2.2.2.1,.int .i64 o.2.2.2.2.1,.int .i64 o.2.2.2.2.2.1,.int .i64 o.2.2.2.2.2.2] 83)).alloc (.cells #[.int .i64 0,.string ⟨#[]⟩] 77)) (w.heap.size+2) (w.heap.size+1+1) q c (by simp) (by simp)
 have hcv:=C9 O0 (by simp) (fun b hb=>by simp only[List.mem_cons,List.not_mem_nil,or_false]at hb;rcases hb with rfl |rfl<;>omega)
 clear O0
 have w1:IntKind.u8.wrap q=q:=by rw[IntKind.wrap_u8];omega
 have w2:IntKind.u8.wrap c=c:=by rw[IntKind.wrap_u8];omega
 rw[HL.out]
 generalize strOf [q,c]=S at *
 go_enter Tryz.func23,Tryz.ntmps23
 go_wp2_with (with_reducible refine Ae ?_)
 exact⟨bodyPost_ret (v:=.tuple #[.agg #[.int .i64 16,.string S],.bool true]) (by simp[results_cell_tmp Tryz.results23,asAddr,go_sem]) rfl ⟨rfl,Ai (Ai (Ai (Below.refl _ _) _) _) _⟩⟩
theorem Tp(q c:Int)(o:V7)(w:World)(h0:0<=q)(h1:q<=255)(h3:c=3)(hR:AA o=false):
    Calls Tryz.prog 23 #[.agg #[.int .i64 q,.int .i64 c,.int .i64 o.1,.int .i64 o.2.1,.int .i64 o.2.2.1,.int .i64 o.2.2.2.1,.int .i64 o.2.2.2.2.1,.int .i64 o.2.2.2.2.2.1,.int .i64 o.2.2.2.2.2.2]] w fun e w'=>e=.returned (.tuple #[.agg #[.int .i64 0,.string ⟨#[]⟩],.bool false])/\Below w.heap.size w w':=by
 subst h3
 have hr:=Lw o
 rw[hR]at hr
 have w1:IntKind.u8.wrap q=q:=by rw[IntKind.wrap_u8];omega
 go_enter Tryz.func23,Tryz.ntmps23
 go_wp2_with fail
 refine(hr _).mono ?_
 rintro e W1 ⟨rfl,b1⟩
 have L1:=Au (Ai (Ai (Ai (Below.refl _ w) _) _) _) b1
 have A1:=(((Am w w.heap.size [.int .i64 q,.int .i64 3,.int .i64 o.1,.int .i64 o.2.1,.int .i64 o.2.2.1,.int .i64 o.2.2.2.1,.int .i64 o.2.2.2.2.1,.int .i64 o.2.2.2.2.2.1,.int .i64 o.2.2.2.2.2.2] 83 rfl).alloc (.cells #[.int .i64 0,.string ⟨#[]⟩] 77)).alloc (.cells #[.int .u8 q,.int .u8 3] 5)).below b1
 have R1:=((Am (w.alloc (.cells #[.int .i64 q,.int .i64 3,.int .i64 o.1,.int .i64 o.2.1,.int .i64 o.2.2.1,.int .i64 o.2.2.2.1,.int .i64 o.2.2.2.2.1,.int .i64 o.2.2.2.2.2.1,.int .i64 o.2.2.2.2.2.2] 83)) (w.heap.size+1) [.int .i64 0,.string ⟨#[]⟩] 77 (by simp)).alloc (.cells #[.int .u8 q,.int .u8 3] 5)).below b1
 have c0:W1.cell? ⟨w.heap.size+1,0,none⟩=some (.int .i64 0):=R1.c 0 (zD rfl)
 have c1:W1.cell? ⟨w.heap.size+1,1,none⟩=some (.string ⟨#[]⟩):=R1.c 1 (zD rfl)
 have f0:=R1.f 0 (zD rfl)
 have f1:=R1.f 1 (zD rfl)
 clear A1 b1
 go_wp2_with (with_reducible refine Ae ?_)
 have d0:=Ap.c ((R1.put 0 (zD rfl) (.int .i64 0) [.int .i64 0,.string ⟨#[]⟩] rfl).put 1 (zD rfl) (.string ⟨#[]⟩) [.int .i64 0,.string ⟨#[]⟩] rfl) 0 (zD rfl)
 have d1:=Ap.c ((R1.put 0 (zD rfl) (.int .i64 0) [.int .i64 0,.string ⟨#[]⟩] rfl).put 1 (zD rfl) (.string ⟨#[]⟩) [.int .i64 0,.string ⟨#[]⟩] rfl) 1 (zD rfl)
 simp only[List.getElem_cons_zero,List.getElem_cons_succ]at d0 d1
 exact⟨bodyPost_ret (v:=.tuple #[.agg #[.int .i64 0,.string ⟨#[]⟩],.bool false]) (by simp[results_cell_tmp Tryz.results23,asAddr,go_sem,d0,d1]) rfl ⟨rfl,Al (Al L1 _ _ (by omega) _) _ _ (by omega) _⟩⟩
theorem DL{ops:Array Oper}{rest:List Oper}{o:Oper}{a:Act}{Q:Exit->Act->World->Prop}(hgd:o.guard=none)(s x:Operand)
    (ho:o.op=.call {callee:=.builtin .append,args:=#[s,x],argTypes:=#[56,56]}) (B:Nat) (v:Value) (l news:List Int) (w0:World) (hs:a.eval s=v) (hown:Bg B w0 v l)
    (hx:a.eval x=.slice (some ⟨w0.heap.size,0,none⟩) news.length news.length) (hl:l.length+news.length<=100) (hB:B<=w0.heap.size)
    (h:∀v' w',Bg B w' v' (l++news)->Below B w0 w'->w0.heap.size<=w'.heap.size->(∀(k:Nat) (arr:Array Value) (t:TypeId) (z:Nat×Nat),t≠5->w0.heap[k]? =some (Obj.cells arr t z)->w'.heap[k]? =some (Obj.cells arr t z))->wpList Tryz.prog ops Q rest (a.put o.dst v') w'):wpList Tryz.prog ops Q (o::rest) a (w0.alloc (.cells (u8s news).toArray 5)):=by
 obtain⟨i,hi,hz,hsz,hby⟩:=Ja
 have hown':=hown.same ((Below.refl _ _).alloc (Nat.le_refl _) (.cells (u8s news).toArray 5))
 refine wpList_append_own _ hgd s x 56 ho B 5 i (.int .u8 0) 1 1 Tryz.underlying56 hi hz hsz hby rfl (by decide) v l.length (u8s l) hs hown' ⟨w0.heap.size,0,none⟩ news.length news.length (u8s news) hx (by simp[u8s]) ?_ ?_ (by unfold maxLen;omega) (by omega) (by simp;omega) ?_
 ·intro j u hj
  have A:=Am w0 w0.heap.size (u8s news) 5 rfl
  obtain⟨hj',rfl⟩:=List.getElem?_eq_some_iff.1 hj
  rw[Ix]
  exact A.c j hj'
 ·intro u hu
  unfold u8s at hu
  obtain⟨b,_,rfl⟩:=List.mem_map.1 hu
  rfl
 ·intro v' w' h1 h2 _
  have hbel:Below B w0 w':=((Below.refl B w0).alloc hB _).grown h2 (by simp;omega) (fun k hk=>(World.ownsRow.lt hown k hk).1)
  refine h v' w' ?_ hbel (by have:=h2.size;simp at this;omega) ?_
  ·show w'.ownsRow B 5 1 v' (l++news).length (u8s (l++news))
   rw[List.length_append,show u8s (l++news)=u8s l++u8s news by simp[u8s]]
   exact h1
  ·intro k arr t z ht hk
   have hlt:k<w0.heap.size:=(Array.getElem?_eq_some_iff.1 hk).1
   rw[h2.block k (by simp;omega) ?_]
   ·have hb:=(Below.refl w0.heap.size w0).alloc (Nat.le_refl _) (.cells (u8s news).toArray 5)
    rw[hb.block k hlt]
    exact hk
   ·intro e
    rcases hown.2 with⟨rfl,_⟩|⟨g,cap,cur,rfl,_,hg,_⟩
    ·cases e
    ·have e:k=g:=Option.some.inj e
     subst e
     rw[hk]at hg
     cases hg
     exact ht rfl
theorem cell_in{W:World}{k:Nat}{ef:Nat->Int}{t:TypeId}(h:W.heap[k]? =some (.cells (row 7 ef).toArray t (0,0)))(j:Nat)(hj:j<7):W.cell? ⟨k,j,none⟩=some (.int .i64 (ef j)):=by
 unfold World.cell?
 rw[h]
 have:=Fg (N:=7) (g:=ef) (i:=j) (by rw[BU];exact hj)
 simp[row,hj]
theorem QO(q c:Int)(o:V7)(w:World)(h0:0<=q)(h1:q<=255)(h3:c=3)(hR:AA o=true):
    Calls Tryz.prog 23 #[.agg #[.int .i64 q,.int .i64 c,.int .i64 o.1,.int .i64 o.2.1,.int .i64 o.2.2.1,.int .i64 o.2.2.2.1,.int .i64 o.2.2.2.2.1,.int .i64 o.2.2.2.2.2.1,.int .i64 o.2.2.2.2.2.2]] w fun e w'=>e=.returned (.tuple #[.agg #[.int .i64 16,.string (strOf (Lt q c o))],.bool true])/\Below w.heap.size w w':=by
 subst h3
 have hr:=Lw o
 rw[hR]at hr
 have w1:IntKind.u8.wrap q=q:=by rw[IntKind.wrap_u8];omega
 have HL:Hid (Lt q 3 o=elsL [q,3] (v7F o) 7):=rfl
 have O0:=OF ((w.alloc (.cells #[.int .i64 q,.int .i64 3,.int .i64 o.1,.int .i64 o.2.1,.int .i64 o.2.2.1,.int .i64 o.2.2.2.1,.int .i64 o.2.2.2.2.1,.int .i64 o.2.2.2.2.2.1,.int .i64 o.2.2.2.2.2.2] 83)).alloc (.cells #[.int .i64 0,.string ⟨#[]⟩] 77)) (w.heap.size+2) (w.heap.size+1+1) q 3 (by simp) (by simp)
 rw[HL.out]
 generalize hS:strOf (elsL [q,3] (v7F o) 7)=S
 have HS:Hid (strOf (elsL [q,3] (v7F o) 7)=S):=hS
 clear hS
 go_enter Tryz.func23,Tryz.ntmps23
 go_wp2_with fail
 refine(hr _).mono ?_
 rintro e W1 ⟨rfl,b1⟩
 have L1:=Au (Ai (Ai (Ai (Below.refl _ w) _) _) _) b1
 have A1:=(((Am w w.heap.size [.int .i64 q,.int .i64 3,.int .i64 o.1,.int .i64 o.2.1,.int .i64 o.2.2.1,.int .i64 o.2.2.2.1,.int .i64 o.2.2.2.2.1,.int .i64 o.2.2.2.2.2.1,.int .i64 o.2.2.2.2.2.2] 83 rfl).alloc (.cells #[.int .i64 0,.string ⟨#[]⟩] 77)).alloc (.cells #[.int .u8 q,.int .u8 3] 5)).below b1
 have R1:=((Am (w.alloc (.cells #[.int .i64 q,.int .i64 3,.int .i64 o.1,.int .i64 o.2.1,.int .i64 o.2.2.1,.int .i64 o.2.2.2.1,.int .i64 o.2.2.2.2.1,.int .i64 o.2.2.2.2.2.1,.int .i64 o.2.2.2.2.2.2] 83)) (w.heap.size+1) [.int .i64 0,.string ⟨#[]⟩] 77 (by simp)).alloc (.cells #[.int .u8 q,.int .u8 3] 5)).below b1
 have O1:=O0.same b1
 clear O0
 have z1:=L1.size
 have rz1:=R1.lies
 have az1:=A1.lies
 have a2:W1.cell? ⟨w.heap.size,2,none⟩=some (.int .i64 o.1):=A1.c 2 (zD rfl)
 have a3:W1.cell? ⟨w.heap.size,3,none⟩=some (.int .i64 o.2.1):=A1.c 3 (zD rfl)
 have a4:W1.cell? ⟨w.heap.size,4,none⟩=some (.int .i64 o.2.2.1):=A1.c 4 (zD rfl)
 have a5:W1.cell? ⟨w.heap.size,5,none⟩=some (.int .i64 o.2.2.2.1):=A1.c 5 (zD rfl)
 have a6:W1.cell? ⟨w.heap.size,6,none⟩=some (.int .i64 o.2.2.2.2.1):=A1.c 6 (zD rfl)
 have a7:W1.cell? ⟨w.heap.size,7,none⟩=some (.int .i64 o.2.2.2.2.2.1):=A1.c 7 (zD rfl)
 have a8:W1.cell? ⟨w.heap.size,8,none⟩=some (.int .i64 o.2.2.2.2.2.2):=A1.c 8 (zD rfl)
 clear b1 A1
 have T1:((W1.alloc (.cells #[.int .i64 o.1,.int .i64 o.2.1,.int .i64 o.2.2.1,.int .i64 o.2.2.2.1,.int .i64 o.2.2.2.2.1,.int .i64 o.2.2.2.2.2.1,.int .i64 o.2.2.2.2.2.2] 38)).alloc (.cells #[.int .i64 o.1,.int .i64 o.2.1,.int .i64 o.2.2.1,.int .i64 o.2.2.2.1,.int .i64 o.2.2.2.2.1,.int .i64 o.2.2.2.2.2.1,.int .i64 o.2.2.2.2.2.2] 2)).heap[W1.heap.size+1]? =some (Obj.cells (row 7 (v7F o)).toArray 2 (0,0)):=by
  have:=heap_alloc_new (W1.alloc (.cells #[.int .i64 o.1,.int .i64 o.2.1,.int .i64 o.2.2.1,.int .i64 o.2.2.2.1,.int .i64 o.2.2.2.2.1,.int .i64 o.2.2.2.2.2.1,.int .i64 o.2.2.2.2.2.2] 38)) (.cells #[.int .i64 o.1,.int .i64 o.2.1,.int .i64 o.2.2.1,.int .i64 o.2.2.2.1,.int .i64 o.2.2.2.2.1,.int .i64 o.2.2.2.2.2.1,.int .i64 o.2.2.2.2.2.2] 2)
  simp only[World.size_alloc]at this
  exact this
 have hne:(2:TypeId)≠5:=by decide
 go_wp2_with fail
 go_loopw [4,7] (fun bv iv wr=>∃j:Nat,j<=7/\iv=.int .i64 j/\Bg (w.heap.size+2) wr bv (elsL [q,3] (v7F o) j)/\Below w.heap.size w wr/\Ap (w.heap.size+1) [.int .i64 0,.string ⟨#[]⟩] wr/\wr.heap[W1.heap.size+1]? =some (Obj.cells (row 7 (v7F o)).toArray 2 (0,0))) (fun _ iv _=>7-(intOf iv).toNat)
 case atStart=>exact⟨0,by omega,rfl,(O1.alloc _).alloc _,Ai (Ai L1 _) _,(R1.alloc _).alloc _,T1⟩
 case round=>
  obtain⟨j,hj,rfl,O3,L3,R3,T3⟩:=hrel
  have Rz3':=R3.lies
  have Rz3:w.heap.size+2<=wr.heap.size:=by omega
  clear a2 a3 a4 a5 a6 a7 a8 O1 L1 R1 T1 z1 rz1 az1
  by_cases hj7:j<7
  ·have i0:=cell_in T3 j hj7
   have HN:Hid (elsL [q,3] (v7F o) (j+1)=elsL [q,3] (v7F o) j++numL (v7F o j)):=rfl
   have hlt:=Co [q,3] (v7F o) j
   have hlt:(elsL [q,3] (v7F o) j).length<=50:=by rw[hlt];simp;omega
   have cell_in:=fun(W:World) (h:W.heap[W1.heap.size+1]? =some (Obj.cells (row 7 (v7F o)).toArray 2 (0,0)))=>cell_in h j hj7
   generalize elsL [q,3] (v7F o) j=l at O3 HN hlt
   generalize v7F o j=n at i0 HN cell_in
   have CI:Hid (∀(W:World),W.heap[W1.heap.size+1]? =some (Obj.cells (row 7 (v7F o)).toArray 2 (0,0))->W.cell? ⟨W1.heap.size+1,j,none⟩=some (.int .i64 n)):=cell_in
   clear cell_in
   go_wp2_with fail
   refine wp_loop_rounds 9 ?_
   rw[rounds_succ]
   go_wp2_with (at_builtin;refine DL rfl (.tmp 70) (.tmp 80) rfl (w.heap.size+2) u4 l [IntKind.u8.wrap (IntKind.u64.wrap n / 72057594037927936)] wr rfl O3 rfl (by simp;omega) Rz3 ?_;intro v1 w1 o1 b1 s1 K1;have t1:=K1 _ _ _ _ hne T3;have i1:=CI.out _ t1)
   have z1:w.heap.size+2<=w1.heap.size:=Nat.le_trans Rz3 s1
   rw[rounds_succ]
   go_wp2_with (at_builtin;refine DL rfl (.tmp 70) (.tmp 80) rfl (w.heap.size+2) v1 (l++[IntKind.u8.wrap (IntKind.u64.wrap n / 72057594037927936)]) [IntKind.u8.wrap (IntKind.u64.wrap n / 281474976710656)] w1 rfl o1 rfl (by simp;omega) z1 ?_;intro v2 w2 o2 b2 s2 K2;have t2:=K2 _ _ _ _ hne t1;have i2:=CI.out _ t2)
   have z2:w.heap.size+2<=w2.heap.size:=Nat.le_trans z1 s2
   have b2:=b1.trans b2
   have s2:=Nat.le_trans s1 s2
   clear b1 s1 o1 z1 K1 t1 i1
   rw[List.append_assoc]at o2
   simp only[List.cons_append,List.nil_append]at o2
   rw[rounds_succ]
   go_wp2_with (at_builtin;refine DL rfl (.tmp 70) (.tmp 80) rfl (w.heap.size+2) v2 (l++[IntKind.u8.wrap (IntKind.u64.wrap n / 72057594037927936),IntKind.u8.wrap (IntKind.u64.wrap n / 281474976710656)]) [IntKind.u8.wrap (IntKind.u64.wrap n / 1099511627776)] w2 rfl o2 rfl (by simp;omega) z2 ?_;intro v3 w3 o3 b3 s3 K3;have t3:=K3 _ _ _ _ hne t2;have i3:=CI.out _ t3)
   have z3:w.heap.size+2<=w3.heap.size:=Nat.le_trans z2 s3
   have b3:=b2.trans b3
   have s3:=Nat.le_trans s2 s3
   clear b2 s2 o2 z2 K2 t2 i2
   rw[List.append_assoc]at o3
   simp only[List.cons_append,List.nil_append]at o3
   rw[rounds_succ]
   go_wp2_with (at_builtin;refine DL rfl (.tmp 70) (.tmp 80) rfl (w.heap.size+2) v3 (l++[IntKind.u8.wrap (IntKind.u64.wrap n / 72057594037927936),IntKind.u8.wrap (IntKind.u64.wrap n / 281474976710656),IntKind.u8.wrap (IntKind.u64.wrap n / 1099511627776)]) [IntKind.u8.wrap (IntKind.u64.wrap n / 4294967296)] w3 rfl o3 rfl (by simp;omega) z3 ?_;intro v4 w4 o4 b4 s4 K4;have t4:=K4 _ _ _ _ hne t3;have i4:=CI.out _ t4)
   have z4:w.heap.size+2<=w4.heap.size:=Nat.le_trans z3 s4
   have b4:=b3.trans b4
   have s4:=Nat.le_trans s3 s4
   clear b3 s3 o3 z3 K3 t3 i3
   rw[List.append_assoc]at o4
   simp only[List.cons_append,List.nil_append]at o4
   rw[rounds_succ]
   go_wp2_with (at_builtin;refine DL rfl (.tmp 70) (.tmp 80) rfl (w.heap.size+2) v4 (l++[IntKind.u8.wrap (IntKind.u64.wrap n / 72057594037927936),IntKind.u8.wrap (IntKind.u64.wrap n / 281474976710656),IntKind.u8.wrap (IntKind.u64.wrap n / 1099511627776),IntKind.u8.wrap (IntKind.u64.wrap n / 4294967296)]) [IntKind.u8.wrap (IntKind.u64.wrap n / 16777216)] w4 rfl o4 rfl (by simp;omega) z4 ?_;intro v5 w5 o5 b5 s5 K5;have t5:=K5 _ _ _ _ hne t4;have i5:=CI.out _ t5)
   have z5:w.heap.size+2<=w5.heap.size:=Nat.le_trans z4 s5
   have b5:=b4.trans b5
   have s5:=Nat.le_trans s4 s5
   clear b4 s4 o4 z4 K4 t4 i4
   rw[List.append_assoc]at o5
   simp only[List.cons_append,List.nil_append]at o5
   rw[rounds_succ]
   go_wp2_with (at_builtin;refine DL rfl (.tmp 70) (.tmp 80) rfl (w.heap.size+2) v5 (l++[IntKind.u8.wrap (IntKind.u64.wrap n / 72057594037927936),IntKind.u8.wrap (IntKind.u64.wrap n / 281474976710656),IntKind.u8.wrap (IntKind.u64.wrap n / 1099511627776),IntKind.u8.wrap (IntKind.u64.wrap n / 4294967296),IntKind.u8.wrap (IntKind.u64.wrap n / 16777216)]) [IntKind.u8.wrap (IntKind.u64.wrap n / 65536)] w5 rfl o5 rfl (by simp;omega) z5 ?_;intro v6 w6 o6 b6 s6 K6;have t6:=K6 _ _ _ _ hne t5;have i6:=CI.out _ t6)
   have z6:w.heap.size+2<=w6.heap.size:=Nat.le_trans z5 s6
   have b6:=b5.trans b6
   have s6:=Nat.le_trans s5 s6
   clear b5 s5 o5 z5 K5 t5 i5
   rw[List.append_assoc]at o6
   simp only[List.cons_append,List.nil_append]at o6
   rw[rounds_succ]
   go_wp2_with (at_builtin;refine DL rfl (.tmp 70) (.tmp 80) rfl (w.heap.size+2) v6 (l++[IntKind.u8.wrap (IntKind.u64.wrap n / 72057594037927936),IntKind.u8.wrap (IntKind.u64.wrap n / 281474976710656),IntKind.u8.wrap (IntKind.u64.wrap n / 1099511627776),IntKind.u8.wrap (IntKind.u64.wrap n / 4294967296),IntKind.u8.wrap (IntKind.u64.wrap n / 16777216),IntKind.u8.wrap (IntKind.u64.wrap n / 65536)]) [IntKind.u8.wrap (IntKind.u64.wrap n / 256)] w6 rfl o6 rfl (by simp;omega) z6 ?_;intro v7 w7 o7 b7 s7 K7;have t7:=K7 _ _ _ _ hne t6;have i7:=CI.out _ t7)
   have z7:w.heap.size+2<=w7.heap.size:=Nat.le_trans z6 s7
   have b7:=b6.trans b7
   have s7:=Nat.le_trans s6 s7
   clear b6 s6 o6 z6 K6 t6 i6
   rw[List.append_assoc]at o7
   simp only[List.cons_append,List.nil_append]at o7
   rw[rounds_succ]
   go_wp2_with (at_builtin;refine DL rfl (.tmp 70) (.tmp 80) rfl (w.heap.size+2) v7 (l++[IntKind.u8.wrap (IntKind.u64.wrap n / 72057594037927936),IntKind.u8.wrap (IntKind.u64.wrap n / 281474976710656),IntKind.u8.wrap (IntKind.u64.wrap n / 1099511627776),IntKind.u8.wrap (IntKind.u64.wrap n / 4294967296),IntKind.u8.wrap (IntKind.u64.wrap n / 16777216),IntKind.u8.wrap (IntKind.u64.wrap n / 65536),IntKind.u8.wrap (IntKind.u64.wrap n / 256)]) [IntKind.u8.wrap (IntKind.u64.wrap n)] w7 rfl o7 rfl (by simp;omega) z7 ?_;intro v8 w8 o8 b8 s8 K8;have t8:=K8 _ _ _ _ hne t7;have i8:=CI.out _ t8)
   have z8:w.heap.size+2<=w8.heap.size:=Nat.le_trans z7 s8
   have b8:=b7.trans b8
   have s8:=Nat.le_trans s7 s8
   clear b7 s7 o7 z7 K7 t7 i7
   rw[List.append_assoc]at o8
   simp only[List.cons_append,List.nil_append]at o8
   rw[rounds_succ]
   go_wp2_with fail
   go_roundw
   case rel=>exact⟨j+1,by omega,by go_num,by rw[HN.out];exact o8,L3.trans (b8.mono (by omega)),R3.under b8 (by omega) s8,t8⟩
   case measure=>simp[intOf];omega
  ·obtain rfl:j=7:=by omega
   have hcv:=C9 O3 (by intro h;have:=congrArg List.length h;rw[Co]at this;simp at this) (Ls (by intro b hb;simp only[List.mem_cons,List.not_mem_nil,or_false]at hb;rcases hb with rfl |rfl<;>omega) _ 7)
   rw[HS.out]at hcv
   clear O3
   have c0:wr.cell? ⟨w.heap.size+1,0,none⟩=some (.int .i64 0):=R3.c 0 (zD rfl)
   have c1:wr.cell? ⟨w.heap.size+1,1,none⟩=some (.string ⟨#[]⟩):=R3.c 1 (zD rfl)
   have f0:=R3.f 0 (zD rfl)
   have f1:=R3.f 1 (zD rfl)
   go_wp2_with (with_reducible refine Ae ?_)
   have d0:=Ap.c ((R3.put 0 (zD rfl) (.int .i64 16) [.int .i64 16,.string ⟨#[]⟩] rfl).put 1 (zD rfl) (.string S) [.int .i64 16,.string S] rfl) 0 (zD rfl)
   have d1:=Ap.c ((R3.put 0 (zD rfl) (.int .i64 16) [.int .i64 16,.string ⟨#[]⟩] rfl).put 1 (zD rfl) (.string S) [.int .i64 16,.string S] rfl) 1 (zD rfl)
   simp only[List.getElem_cons_zero,List.getElem_cons_succ]at d0 d1
   exact⟨bodyPost_ret (v:=.tuple #[.agg #[.int .i64 16,.string S],.bool true]) (by simp[results_cell_tmp Tryz.results23,asAddr,go_sem,d0,d1]) rfl ⟨rfl,Al (Al L3 _ _ (by omega) _) _ _ (by omega) _⟩⟩
end Go.Proofs.YtgmpfeaanjnhaaaGreatDoor
namespace Go.Proofs.YtgmpfeaanjnhaaaGreatDoor
open Go.RowKit
theorem Tq(q c:Int)(o:V7)(w:World):
    Calls Tryz.prog 23 #[.agg #[.int .i64 q,.int .i64 c,.int .i64 o.1,.int .i64 o.2.1,.int .i64 o.2.2.1,.int .i64 o.2.2.2.1,.int .i64 o.2.2.2.2.1,.int .i64 o.2.2.2.2.2.1,.int .i64 o.2.2.2.2.2.2]] w fun e w'=>e=.returned (.tuple #[.agg #[.int .i64 (Tk q c o).1,.string (Tk q c o).2],.bool (BQ q c o)])/\Below w.heap.size w w':=by
 unfold Tk
 by_cases a:q<0
 ·have e:BQ q c o=false:=by unfold BQ;simp;omega
  rw[e]
  exact YF q c o w a
 by_cases b:255<q
 ·have e:BQ q c o=false:=by unfold BQ;simp;omega
  rw[e]
  exact YG q c o w b
 by_cases d:c<1∨4<c
 ·have e:BQ q c o=false:=by unfold BQ;simp;omega
  rw[e]
  rcases d with d |d
  ·exact YH q c o w (by omega) (by omega) d
  ·exact YI q c o w (by omega) (by omega) (by omega) d
 by_cases t:c=3
 ·cases r:AA o
  ·have e:BQ q c o=false:=by unfold BQ;rw[r];simp[t]
   rw[e]
   exact Tp q c o w (by omega) (by omega) t r
  ·have e:BQ q c o=true:=by unfold BQ;rw[r];simp;omega
   rw[e]
   exact QO q c o w (by omega) (by omega) t r
 ·have e:BQ q c o=true:=by unfold BQ;simp[t];omega
  rw[e]
  exact OH q c o w (by omega) (by omega) (by omega) (by omega) t
section
variable (F:Fs) (T:Cra×Int×ByteArray->Cra×Hea)
def setDri(c:Cra)(d:Dri):Cra:=(c.1,c.2.1,c.2.2.1,c.2.2.2.1,c.2.2.2.2.1,c.2.2.2.2.2.1,d,c.2.2.2.2.2.2.2)
def setGue(c:Cra)(g:Tup 43):Cra:=(c.1,c.2.1,c.2.2.1,c.2.2.2.1,c.2.2.2.2.1,c.2.2.2.2.2.1,c.2.2.2.2.2.2.1,g,c.2.2.2.2.2.2.2.2)
def Tr(c:Cra)(t:Int)(p:Tup 6)(g:Tup 43):Cra:=(true,t,c.2.2.1,p,c.2.2.2.2.1,c.2.2.2.2.2.1,c.2.2.2.2.2.2.1,g,c.2.2.2.2.2.2.2.2)
def QP(c:Cra)(s:See)(x:Hea)(y:Sky)(t:Int):Cra×ByteArray:=(Tr c t (planW F c s x y).1 (planW F c s x y).2,Nb F (Tr c t (planW F c s x y).1 (planW F c s x y).2))
def goW(c:Cra)(x:Hea)(t:Int):Cra×ByteArray:=
 if decide (c.2.2.2.1.1=2)then
  (if !(FK F c t x (skyW F c t)).1 then QP F (setGue c (Jc F c.2.2.2.2.2.2.2.1 (FK F c t x (skyW F c t)) (IntKind.i64.wrap (t-c.2.1)) x (skyW F c t)).1) (Jc F c.2.2.2.2.2.2.2.1 (FK F c t x (skyW F c t)) (IntKind.i64.wrap (t-c.2.1)) x (skyW F c t)).2 x (skyW F c t) t
  else QP F c (FK F c t x (skyW F c t)) x (skyW F c t) t)
 else QP F c (FK F c t x (skyW F c t)) x (skyW F c t) t
def JK(c:Cra)(t:Int)(b:ByteArray):Cra×ByteArray:=goW F (setDri (T (c,t,b)).1 (driftW F (T (c,t,b)).1.2.2.2.2.2.2.1 (T (c,t,b)).2)) (T (c,t,b)).2 t
def QQ(c:Cra)(t:Int)(b:ByteArray):Cra×ByteArray:=
 if !F.right t then(c,noBytes)else if c.1 then(if decide (t<=c.2.1)then(c,noBytes)else JK F T c t b)else JK F T c t b
def goV(c:Cra)(x:Hea)(t:Int)(Post:Value->Prop):Prop:=
 DY (decide (c.2.2.2.1.1=2))
  (DY (!(FK F c t x (skyW F c t)).1) (PJ (AV Bo cS) Post (QP F (setGue c (Jc F c.2.2.2.2.2.2.2.1 (FK F c t x (skyW F c t)) (IntKind.i64.wrap (t-c.2.1)) x (skyW F c t)).1) (Jc F c.2.2.2.2.2.2.2.1 (FK F c t x (skyW F c t)) (IntKind.i64.wrap (t-c.2.1)) x (skyW F c t)).2 x (skyW F c t) t))
  (PJ (AV Bo cS) Post (QP F c (FK F c t x (skyW F c t)) x (skyW F c t) t)))
 (PJ (AV Bo cS) Post (QP F c (FK F c t x (skyW F c t)) x (skyW F c t) t))
theorem Aqg(c:Cra)(x:Hea)(t:Int)(Post:Value->Prop):goV F c x t Post=PJ (AV Bo cS) Post (goW F c x t):=by
 unfold goV goW
 rw[CX (K:=PJ (AV Bo cS) Post),CX (K:=PJ (AV Bo cS) Post)]
set_option maxRecDepth 100000 in
theorem Aka(h:FsOk F)(x:Cra×Int×ByteArray)(y:Cra×Hea)(hT:∀w,GW w->Calls Tryz.prog 73 ((Ad Bo (Ad cI (Ac cS))).enc x).toArray w fun e w'=>e=.returned ((AV Bo Dq).enc y)/\Below w.heap.size w w')(w:World)(hw:GW w):
    Calls Tryz.prog 51 ((Ad Bo (Ad cI (Ac cS))).enc x).toArray w fun e w'=>e=.returned ((AV Bo cS).enc (QQ F (fun _=>y) x.1 x.2.1 x.2.2))/\Below w.heap.size w w':=by
 refine Ch (d:=Ad Bo (Ad cI (Ac cS))) (k:=AV Bo cS) (x:=x) (y:=QQ F (fun _=>y) x.1 x.2.1 x.2.2) (tbl:=[Aji F h,Ai5 Tryz.prog 73 (Ad Bo (Ad cI (Ac cS))) (AV Bo Dq) x y (Af Tryz.func73 (by kernel_rfl) (by kernel_rfl)) hT,XW F h,Ajq F h,XX F h,SI F h,XZ F h,Apw F h]) (dirty:=fun _=>[]) (n:=4) Ag Tryz.func51 rfl (fun Post hP=>?_) w hw
 refine Eq.mpr (β:=DY (!F.right x.2.1) (PJ (AV Bo cS) Post (x.1,noBytes)) (DY x.1.1 (DY (decide (x.2.1<=x.1.2.1)) (PJ (AV Bo cS) Post (x.1,noBytes)) ((Ad Bo (Ad cI (Ac cS))).enc x=(Ad Bo (Ad cI (Ac cS))).enc x/\goV F (setDri y.1 (driftW F y.1.2.2.2.2.2.2.1 y.2)) y.2 x.2.1 Post)) ((Ad Bo (Ad cI (Ac cS))).enc x=(Ad Bo (Ad cI (Ac cS))).enc x/\goV F (setDri y.1 (driftW F y.1.2.2.2.2.2.2.1 y.2)) y.2 x.2.1 Post))) (by kernel_rfl) ?_
 simp only[true_and,Aqg]
 rw[CX (K:=PJ (AV Bo cS) Post),CX (K:=PJ (AV Bo cS) Post),CX (K:=PJ (AV Bo cS) Post)]
 exact hP
end
theorem YJ:∃g,BP Tryz.prog nq 213 [rI 3] (rI 3) unkB g:=Aj (tbl:=[]) (dirty:=fun _=>[]) (n:=8) Ao Ag Tryz.func213 rfl (by decide+kernel)
def Kc:ACt Tryz.prog nq:=AL false (Af Tryz.func213 (by kernel_rfl) (by kernel_rfl)) YJ (by decide+kernel)
theorem Akb:∃g,BP Tryz.prog nq 138 [rI 3,rI 3] (rI 3) unkB g:=Aj (tbl:=[EB,Kc]) (dirty:=fun _=>[]) (n:=8) Ao Ag Tryz.func138 rfl (by decide+kernel)
def Nu:ACt Tryz.prog nq:=AL false (Af Tryz.func138 (by kernel_rfl) (by kernel_rfl)) Akb (by decide+kernel)
theorem Akc:∃g,BP Tryz.prog nq 155 [rI 3,rI 3] (rI 3) unkB g:=Aj (tbl:=[EC,Kc]) (dirty:=fun _=>[]) (n:=8) Ao Ag Tryz.func155 rfl (by decide+kernel)
def We:ACt Tryz.prog nq:=AL false (Af Tryz.func155 (by kernel_rfl) (by kernel_rfl)) Akc (by decide+kernel)
theorem YK:∃g,BP Tryz.prog nq 156 [rI 3,uI] (rI 3) unkB g:=Aj (tbl:=[D7,Kc]) (dirty:=fun _=>[]) (n:=8) Ao Ag Tryz.func156 rfl (by decide+kernel)
def OI:ACt Tryz.prog nq:=AL false (Af Tryz.func156 (by kernel_rfl) (by kernel_rfl)) YK (by decide+kernel)
theorem Akd:∃g,BP Tryz.prog nq 154 [rI 3,rI 3] (uI) unkB g:=Aj (tbl:=[D7,EB]) (dirty:=fun _=>[]) (n:=8) Ao Ag Tryz.func154 rfl (by decide+kernel)
def Wf:ACt Tryz.prog nq:=AL false (Af Tryz.func154 (by kernel_rfl) (by kernel_rfl)) Akd (by decide+kernel)
theorem YL:∃g,BP Tryz.prog nq 276 [rI 3,rI 3] (rI 3) unkB g:=Aj (tbl:=[D7,EC,Kc]) (dirty:=fun _=>[]) (n:=8) Ao Ag Tryz.func276 rfl (by decide+kernel)
def Kd:ACt Tryz.prog nq:=AL false (Af Tryz.func276 (by kernel_rfl) (by kernel_rfl)) YL (by decide+kernel)
theorem QR:∃g,BP Tryz.prog nq 104 [rI 3] (uI) unkB g:=Aj (tbl:=[Ab1]) (dirty:=fun _=>[]) (n:=8) Ao Ag Tryz.func104 rfl (by decide+kernel)
def Lx:ACt Tryz.prog nq:=AL false (Af Tryz.func104 (by kernel_rfl) (by kernel_rfl)) QR (by decide+kernel)
theorem Adw:∃g,BP Tryz.prog nq 241 [rI 3] (rI 3) unkB g:=Aj (tbl:=[Lx,FE,Ms]) (dirty:=fun _=>[]) (n:=8) Ao Ag Tryz.func241 rfl (by decide+kernel)
def OJ:ACt Tryz.prog nq:=AL false (Af Tryz.func241 (by kernel_rfl) (by kernel_rfl)) Adw (by decide+kernel)
theorem YM:∃g,BP Tryz.prog nq 228 [rI 3,rI 3] (.tuple ⟨[uI,uI]⟩) unkB g:=Aj (tbl:=[OJ,Lx,Kd,Wf]) (dirty:=fun _=>[]) (n:=8) Ao Ag Tryz.func228 rfl (by decide+kernel)
def Ake:ACt Tryz.prog nq:=AL false (Af Tryz.func228 (by kernel_rfl) (by kernel_rfl)) YM (by decide+kernel)
theorem YN:∃g,Ps Tryz.prog 279 [uI] (uI) g:=Cg (nq:=nq) (tbl:=[]) (dirty:=fun _=>[]) (n:=8) Ag Tryz.func279 rfl (by decide+kernel)
def Wg:ACt Tryz.prog nq:=Hc (Af Tryz.func279 (by kernel_rfl) (by kernel_rfl)) YN (by decide+kernel)
theorem Ts:∃g,Ps Tryz.prog 233 [rI 4] (.tuple ⟨[rI 3,uI]⟩) g:=Cg (nq:=nq) (tbl:=[]) (dirty:=fun _=>[]) (n:=8) Ag Tryz.func233 rfl (by decide+kernel)
def ID:ACt Tryz.prog nq:=Hc (Af Tryz.func233 (by kernel_rfl) (by kernel_rfl)) Ts (by decide+kernel)
theorem Tt:∃g,Ps Tryz.prog 278 [rI 3,uI] (rI 4) g:=Cg (nq:=nq) (tbl:=[]) (dirty:=fun _=>[]) (n:=8) Ag Tryz.func278 rfl (by decide+kernel)
def Adx:ACt Tryz.prog nq:=Hc (Af Tryz.func278 (by kernel_rfl) (by kernel_rfl)) Tt (by decide+kernel)
theorem Ady:∃g,Ps Tryz.prog 236 [rI 4] (rI 4) g:=Cg (nq:=nq) (tbl:=[Wg]) (dirty:=fun _=>[]) (n:=8) Ag Tryz.func236 rfl (by decide+kernel)
def Aqh:ACt Tryz.prog nq:=Hc (Af Tryz.func236 (by kernel_rfl) (by kernel_rfl)) Ady (by decide+kernel)
theorem QS:∃g,Ps Tryz.prog 234 [rI 4] (rI 4) g:=Cg (nq:=nq) (tbl:=[Wg]) (dirty:=fun _=>[]) (n:=8) Ag Tryz.func234 rfl (by decide+kernel)
def Nv:ACt Tryz.prog nq:=Hc (Af Tryz.func234 (by kernel_rfl) (by kernel_rfl)) QS (by decide+kernel)
theorem Tu:∃g,BP Tryz.prog nq 277 [rI 4] (rI 4) unkB g:=Aj (tbl:=[]) (dirty:=fun _=>[]) (n:=8) Ao Ag Tryz.func277 rfl (by decide+kernel)
def Adz:ACt Tryz.prog nq:=AL false (Af Tryz.func277 (by kernel_rfl) (by kernel_rfl)) Tu (by decide+kernel)
theorem Tv:∃g,BP Tryz.prog nq 280 [rI 3] (rI 3) unkB g:=Aj (tbl:=[]) (dirty:=fun _=>[]) (n:=8) Ao Ag Tryz.func280 rfl (by decide+kernel)
def Ad0:ACt Tryz.prog nq:=AL false (Af Tryz.func280 (by kernel_rfl) (by kernel_rfl)) Tv (by decide+kernel)
theorem Akf:∃g,BP Tryz.prog nq 231 [rI 4,rI 4] (rI 4) unkB g:=Aj (tbl:=[ID,OI,Nu,Kd,Wf,EC,D7,Adx,Adz]) (dirty:=fun _=>[]) (n:=8) Ao Ag Tryz.func231 rfl (by decide+kernel)
def QT:ACt Tryz.prog nq:=AL false (Af Tryz.func231 (by kernel_rfl) (by kernel_rfl)) Akf (by decide+kernel)
theorem Ad1:∃g,BP Tryz.prog nq 159 [rI 4] (rI 4) unkB g:=Aj (tbl:=[ID,Lx,Ab1,FE,Ms,Nv]) (dirty:=fun _=>[]) (n:=8) Ao Ag Tryz.func159 rfl (by decide+kernel)
def Tw:ACt Tryz.prog nq:=AL false (Af Tryz.func159 (by kernel_rfl) (by kernel_rfl)) Ad1 (by decide+kernel)
theorem QU:∃g,BP Tryz.prog nq 232 [rI 3] (rI 4) unkB g:=Aj (tbl:=[Wf,EB,D7,EC,Ms,Tw]) (dirty:=fun _=>[]) (n:=8) Ao Ag Tryz.func232 rfl (by decide+kernel)
def Gz:ACt Tryz.prog nq:=AL false (Af Tryz.func232 (by kernel_rfl) (by kernel_rfl)) QU (by decide+kernel)
theorem Ad2:∃g,BP Tryz.prog nq 240 [rI 4,rI 3] (rI 3) unkB g:=Aj (tbl:=[ID,OI,Kd,Nu,We]) (dirty:=fun _=>[]) (n:=8) Ao Ag Tryz.func240 rfl (by decide+kernel)
def Aqi:ACt Tryz.prog nq:=AL false (Af Tryz.func240 (by kernel_rfl) (by kernel_rfl)) Ad2 (by decide+kernel)
theorem YO:∃g,BP Tryz.prog nq 235 [rI 4] (rI 3) unkB g:=Aj (tbl:=[Nv,EB,D7,Ms,Ad0]) (dirty:=fun _=>[]) (n:=8) Ao Ag Tryz.func235 rfl (by decide+kernel)
def Akg:ACt Tryz.prog nq:=AL false (Af Tryz.func235 (by kernel_rfl) (by kernel_rfl)) YO (by decide+kernel)
theorem Akh:∃g,BP Tryz.prog nq 282 [rI 9,uI] (rI 4) unkB g:=Aj (tbl:=[EC,EB]) (dirty:=fun _=>[]) (n:=8) Ao Ag Tryz.func282 rfl (by decide+kernel)
def Aus:ACt Tryz.prog nq:=AL false (Af Tryz.func282 (by kernel_rfl) (by kernel_rfl)) Akh (by decide+kernel)
theorem Aki:∃g,BP Tryz.prog nq 283 [rI 9] (rI 4) unkB g:=Aj (tbl:=[EC,EB]) (dirty:=fun _=>[]) (n:=8) Ao Ag Tryz.func283 rfl (by decide+kernel)
def Aut:ACt Tryz.prog nq:=AL false (Af Tryz.func283 (by kernel_rfl) (by kernel_rfl)) Aki (by decide+kernel)
theorem Akj:∃g,BP Tryz.prog nq 284 [rI 9] (rI 4) unkB g:=Aj (tbl:=[EC,EB]) (dirty:=fun _=>[]) (n:=8) Ao Ag Tryz.func284 rfl (by decide+kernel)
def Auu:ACt Tryz.prog nq:=AL false (Af Tryz.func284 (by kernel_rfl) (by kernel_rfl)) Akj (by decide+kernel)
theorem Akk:∃g,BP Tryz.prog nq 285 [rI 9] (rI 4) unkB g:=Aj (tbl:=[EC,EB]) (dirty:=fun _=>[]) (n:=8) Ao Ag Tryz.func285 rfl (by decide+kernel)
def Auv:ACt Tryz.prog nq:=AL false (Af Tryz.func285 (by kernel_rfl) (by kernel_rfl)) Akk (by decide+kernel)
theorem Nx:∃g,BP Tryz.prog nq 153 [rI 3,rI 3] (unkB) unkB g:=Aj (tbl:=[Ake]) (dirty:=fun _=>[]) (n:=8) Ao Ag Tryz.func153 rfl (by decide+kernel)
def Akl:ACt Tryz.prog nq:=AL false (Af Tryz.func153 (by kernel_rfl) (by kernel_rfl)) Nx (by decide+kernel)
theorem Ad3:∃g,BP Tryz.prog nq 254 [rI 6] (rI 9) unkB g:=Aj (tbl:=[OJ,Kd]) (dirty:=fun _=>[]) (n:=8) Ao Ag Tryz.func254 rfl (by decide+kernel)
def Aqj:ACt Tryz.prog nq:=AL false (Af Tryz.func254 (by kernel_rfl) (by kernel_rfl)) Ad3 (by decide+kernel)
theorem QV:∃g,BP Tryz.prog nq 253 [rI 9,rI 9] (rI 9) unkB g:=Aj (tbl:=[D7,EB]) (dirty:=fun _=>[]) (n:=8) Ao Ag Tryz.func253 rfl (by decide+kernel)
def YP:ACt Tryz.prog nq:=AL false (Af Tryz.func253 (by kernel_rfl) (by kernel_rfl)) QV (by decide+kernel)
theorem Ad4:∃g,BP Tryz.prog nq 243 [uI,rI 6,rI 6,Atk .i64 6] (uI) unkB g:=Aj (tbl:=[D7,EC]) (dirty:=fun _=>[]) (n:=8) Ao Ag Tryz.func243 rfl (by decide+kernel)
def Ad5:ACt Tryz.prog nq:=AL false (Af Tryz.func243 (by kernel_rfl) (by kernel_rfl)) Ad4 (by decide+kernel)
theorem Akm:∃g,BP Tryz.prog nq 246 [rI 6,rI 6,(.int .i64 6)] (uI) unkB g:=Aj (tbl:=[D7,EB]) (dirty:=fun _=>[]) (n:=8) Ao Ag Tryz.func246 rfl (by decide+kernel)
def Auw:ACt Tryz.prog nq:=AL false (Af Tryz.func246 (by kernel_rfl) (by kernel_rfl)) Akm (by decide+kernel)
theorem Ad6:∃g,BP Tryz.prog nq 242 [(.int .i64 6)] ((.bool true)) unkB g:=Aj (tbl:=[FE]) (dirty:=fun _=>[]) (n:=8) Ao Ag Tryz.func242 rfl (by decide+kernel)
def Tx:ACt Tryz.prog nq:=AL false (Af Tryz.func242 (by kernel_rfl) (by kernel_rfl)) Ad6 (by decide+kernel)
theorem YQ:∃g,BP Tryz.prog nq 244 [uI] (uI) unkB g:=Aj (tbl:=[FE,VU]) (dirty:=fun _=>[]) (n:=8) Ao Ag Tryz.func244 rfl (by decide+kernel)
def Akn:ACt Tryz.prog nq:=AL false (Af Tryz.func244 (by kernel_rfl) (by kernel_rfl)) YQ (by decide+kernel)
theorem Ty:∃g,BP Tryz.prog nq 245 [rI 36] (rI 36) unkB g:=Aj (tbl:=[]) (dirty:=fun _=>[]) (n:=8) Ao Ag Tryz.func245 rfl (by decide+kernel)
def Ad7:ACt Tryz.prog nq:=AL false (Af Tryz.func245 (by kernel_rfl) (by kernel_rfl)) Ty (by decide+kernel)
theorem Tz:∃g,BP Tryz.prog nq 247 [rI 6] (rI 6) unkB g:=Aj (tbl:=[]) (dirty:=fun _=>[]) (n:=8) Ao Ag Tryz.func247 rfl (by decide+kernel)
def QW:ACt Tryz.prog nq:=AL false (Af Tryz.func247 (by kernel_rfl) (by kernel_rfl)) Tz (by decide+kernel)
theorem QX:∃g,BP Tryz.prog nq 248 [rI 36,rI 6,(.int .i64 6)] (rI 6) unkB g:=Aj (tbl:=[Ad5,Ms]) (dirty:=fun _=>[]) (n:=8) Ao Ag Tryz.func248 rfl (by decide+kernel)
def YR:ACt Tryz.prog nq:=AL false (Af Tryz.func248 (by kernel_rfl) (by kernel_rfl)) QX (by decide+kernel)
theorem Ad8:∃g,BP Tryz.prog nq 173 [rI 36,(.int .i64 6)] (rI 36) unkB g:=Aj (tbl:=[Tx,Ad5,Ms,Akn,Ad7]) (dirty:=fun _=>[]) (n:=8) Ao Ag Tryz.func173 rfl (by decide+kernel)
def TA:ACt Tryz.prog nq:=AL false (Af Tryz.func173 (by kernel_rfl) (by kernel_rfl)) Ad8 (by decide+kernel)
theorem YS:∃g,BP Tryz.prog nq 175 [rI 36,rI 6,(.int .i64 6)] (rI 6) unkB g:=Aj (tbl:=[Tx,YR,D7,EC,Ms,QW]) (dirty:=fun _=>[]) (n:=8) Ao Ag Tryz.func175 rfl (by decide+kernel)
def Ke:ACt Tryz.prog nq:=AL false (Af Tryz.func175 (by kernel_rfl) (by kernel_rfl)) YS (by decide+kernel)
theorem YT:∃g,BP Tryz.prog nq 174 [rI 36,rI 6,(.int .i64 6)] (rI 6) unkB g:=Aj (tbl:=[Tx,Auw,QW]) (dirty:=fun _=>[]) (n:=8) Ao Ag Tryz.func174 rfl (by decide+kernel)
def Kf:ACt Tryz.prog nq:=AL false (Af Tryz.func174 (by kernel_rfl) (by kernel_rfl)) YT (by decide+kernel)
theorem TB:∃g,Ps Tryz.prog 230 [rI 6] (.tuple ⟨[rI 3,rI 3]⟩) g:=Cg (nq:=nq) (tbl:=[]) (dirty:=fun _=>[]) (n:=8) Ag Tryz.func230 rfl (by decide+kernel)
def Eu:ACt Tryz.prog nq:=Hc (Af Tryz.func230 (by kernel_rfl) (by kernel_rfl)) TB (by decide+kernel)
theorem TC:∃g,Ps Tryz.prog 172 [rI 6] (rI 6) g:=Cg (nq:=nq) (tbl:=[]) (dirty:=fun _=>[]) (n:=8) Ag Tryz.func172 rfl (by decide+kernel)
def IE:ACt Tryz.prog nq:=Hc (Af Tryz.func172 (by kernel_rfl) (by kernel_rfl)) TC (by decide+kernel)
theorem TD:∃g,Ps Tryz.prog 238 [uI,uI,uI] (uI) g:=Cg (nq:=nq) (tbl:=[]) (dirty:=fun _=>[]) (n:=8) Ag Tryz.func238 rfl (by decide+kernel)
def Ad9:ACt Tryz.prog nq:=Hc (Af Tryz.func238 (by kernel_rfl) (by kernel_rfl)) TD (by decide+kernel)
theorem TE:∃g,BP Tryz.prog nq 237 [rI 13] (uI) unkB g:=Aj (tbl:=[EB,F0]) (dirty:=fun _=>[]) (n:=16) Ao Ag Tryz.func237 rfl (by decide+kernel)
def Aea:ACt Tryz.prog nq:=AL false (Af Tryz.func237 (by kernel_rfl) (by kernel_rfl)) TE (by decide+kernel)
theorem Aeb:∃g,BP Tryz.prog nq 161 [rI 78] (rI 6) unkB g:=Aj (tbl:=[Aea]) (dirty:=fun _=>[]) (n:=16) Ao Ag Tryz.func161 rfl (by decide+kernel)
def TF:ACt Tryz.prog nq:=AL false (Af Tryz.func161 (by kernel_rfl) (by kernel_rfl)) Aeb (by decide+kernel)
theorem Aec:∃g,BP Tryz.prog nq 171 [rI 6,rI 6] (rI 6) unkB g:=Aj (tbl:=[EC]) (dirty:=fun _=>[]) (n:=8) Ao Ag Tryz.func171 rfl (by decide+kernel)
def Ly:ACt Tryz.prog nq:=AL false (Af Tryz.func171 (by kernel_rfl) (by kernel_rfl)) Aec (by decide+kernel)
theorem TG:∃g,BP Tryz.prog nq 162 [rI 78,rI 6] (rI 78) unkB g:=Aj (tbl:=[Ly]) (dirty:=fun _=>[]) (n:=16) Ao Ag Tryz.func162 rfl (by decide+kernel)
def Lz:ACt Tryz.prog nq:=AL false (Af Tryz.func162 (by kernel_rfl) (by kernel_rfl)) TG (by decide+kernel)
theorem TH:∃g,BP Tryz.prog nq 167 [rI 36,uI,uI] (rI 36) unkB g:=Aj (tbl:=[Ad9,EB]) (dirty:=fun _=>[]) (n:=8) Ao Ag Tryz.func167 rfl (by decide+kernel)
def LA:ACt Tryz.prog nq:=AL false (Af Tryz.func167 (by kernel_rfl) (by kernel_rfl)) TH (by decide+kernel)
theorem TI:∃g,BP Tryz.prog nq 249 [rI 36] (rI 36) unkB g:=Aj (tbl:=[EB,F0]) (dirty:=fun _=>[]) (n:=8) Ao Ag Tryz.func249 rfl (by decide+kernel)
def QY:ACt Tryz.prog nq:=AL false (Af Tryz.func249 (by kernel_rfl) (by kernel_rfl)) TI (by decide+kernel)
theorem YU:∃g,BP Tryz.prog nq 170 [rI 6] (rI 6) unkB g:=Aj (tbl:=[OJ]) (dirty:=fun _=>[]) (n:=8) Ao Ag Tryz.func170 rfl (by decide+kernel)
def Wh:ACt Tryz.prog nq:=AL false (Af Tryz.func170 (by kernel_rfl) (by kernel_rfl)) YU (by decide+kernel)
theorem Mz:∃g,BP Tryz.prog nq 229 [rI 43,rI 78] (rI 52) unkB g:=Aj (tbl:=[Eu,Gz,QT]) (dirty:=fun _=>[]) (n:=16) Ao Ag Tryz.func229 rfl (by decide+kernel)
def JL:ACt Tryz.prog nq:=AL false (Af Tryz.func229 (by kernel_rfl) (by kernel_rfl)) Mz (by decide+kernel)
theorem YV:∃g,BP Tryz.prog nq 158 [rI 43,rI 78,rI 3,uI] (rI 52) unkB g:=Aj (tbl:=[JL,We,Eu,F0,Gz,QT]) (dirty:=fun _=>[]) (n:=16) Ao Ag Tryz.func158 rfl (by decide+kernel)
def Ako:ACt Tryz.prog nq:=AL false (Af Tryz.func158 (by kernel_rfl) (by kernel_rfl)) YV (by decide+kernel)
theorem TJ:∃g,BP Tryz.prog nq 160 [rI 4,rI 52,rI 78] (rI 78) unkB g:=Aj (tbl:=[Eu,Akg,QT,Aqh,IE]) (dirty:=fun _=>[]) (n:=16) Ao Ag Tryz.func160 rfl (by decide+kernel)
def Aed:ACt Tryz.prog nq:=AL false (Af Tryz.func160 (by kernel_rfl) (by kernel_rfl)) TJ (by decide+kernel)
theorem TK:∃g,BP Tryz.prog nq 169 [rI 43,rI 78,rI 6] (rI 78) unkB g:=Aj (tbl:=[JL,Aqi,IE]) (dirty:=fun _=>[]) (n:=16) Ao Ag Tryz.func169 rfl (by decide+kernel)
def QZ:ACt Tryz.prog nq:=AL false (Af Tryz.func169 (by kernel_rfl) (by kernel_rfl)) TK (by decide+kernel)
theorem TL:∃g,BP Tryz.prog nq 165 [rI 4,rI 6] (rI 4) unkB g:=Aj (tbl:=[Eu,Gz,QT,Tw]) (dirty:=fun _=>[]) (n:=8) Ao Ag Tryz.func165 rfl (by decide+kernel)
def Aee:ACt Tryz.prog nq:=AL false (Af Tryz.func165 (by kernel_rfl) (by kernel_rfl)) TL (by decide+kernel)
theorem TM:∃g,BP Tryz.prog nq 166 [rI 3,rI 6] (rI 3) unkB g:=Aj (tbl:=[Eu,Nu]) (dirty:=fun _=>[]) (n:=8) Ao Ag Tryz.func166 rfl (by decide+kernel)
def Aef:ACt Tryz.prog nq:=AL false (Af Tryz.func166 (by kernel_rfl) (by kernel_rfl)) TM (by decide+kernel)
def zS(a:Act)(n:Nat):Nat->Value:=fun i=>(a.tmps.toList.drop n).getD i undef
theorem DN{J:Act->World->Prop}{a:Act}{W:World}(h:∀a',a'=a->J a' W):J a W:=h a rfl
def Aeg(q:V4)(v:V3)(p:Nat->Int):Nat->Int:=fun i=>if i<7 then(if i=0 then q.1 else if i=1 then q.2.1 else if i=2 then q.2.2.1 else if i=3 then q.2.2.2 else if i=4 then v.1 else if i=5 then v.2.1 else v.2.2)else p (i-7)
def Axm(y:Nat->Int):Nat->Int:=fun i=>if i<6 then y i else 0
def De(x:Nat->Int)(k:Nat)(s0:Int×Bool):Int×Bool:=let p1:=Ca s0.2 s0.1 (x k);(p1.1,p1.2)
def B5(x:Nat->Int)(z:Int×Bool):Nat->Int×Bool
 |0=>z
 |k+1=>De x k (B5 x z k)
theorem Ji(x:Nat->Int)(z:Int×Bool)(k:Nat):B5 x z (k+1)=De x k (B5 x z k):=rfl
def DO(bad:Bool)(x:Nat->Int):(Int)×Bool:=let r2:=B5 x ((x 0),bad) 13;let r3:=Aw r2.2 r2.1 1 14;(r3.1,r3.2)
def Df(x:Nat->Int)(y:Nat->Int)(i:Nat)(j:Nat)(k:Nat)(s2:(Nat->Int)×Bool):(Nat->Int)×Bool:=let p1:=mulS s2.2 (x (k*6+i)) (y (k*6+j));((updF s2.1 k p1.1),p1.2)
def BO(x:Nat->Int)(y:Nat->Int)(i:Nat)(j:Nat)(z:(Nat->Int)×Bool):Nat->(Nat->Int)×Bool
 |0=>z
 |k+1=>Df x y i j k (BO x y i j z k)
theorem Ev(x:Nat->Int)(y:Nat->Int)(i:Nat)(j:Nat)(z:(Nat->Int)×Bool)(k:Nat):BO x y i j z (k+1)=Df x y i j k (BO x y i j z k):=rfl
def Dh(x:Nat->Int)(y:Nat->Int)(i:Nat)(j:Nat)(s1:(Nat->Int)×Bool):(Nat->Int)×Bool:=let p1:=BO x y i j ((fun _=>0),s1.2) 13;let p2:=DO p1.2 p1.1;((updF s1.1 (i*6+j) p2.1),p2.2)
def Bz(x:Nat->Int)(y:Nat->Int)(i:Nat)(z:(Nat->Int)×Bool):Nat->(Nat->Int)×Bool
 |0=>z
 |j+1=>Dh x y i j (Bz x y i z j)
theorem Ew(x:Nat->Int)(y:Nat->Int)(i:Nat)(z:(Nat->Int)×Bool)(j:Nat):Bz x y i z (j+1)=Dh x y i j (Bz x y i z j):=rfl
def Di(x:Nat->Int)(y:Nat->Int)(i:Nat)(s0:(Nat->Int)×Bool):(Nat->Int)×Bool:=let p1:=Bz x y i (s0.1,s0.2) 6;(p1.1,p1.2)
def Bd(x:Nat->Int)(y:Nat->Int)(z:(Nat->Int)×Bool):Nat->(Nat->Int)×Bool
 |0=>z
 |i+1=>Di x y i (Bd x y z i)
theorem Ex(x:Nat->Int)(y:Nat->Int)(z:(Nat->Int)×Bool)(i:Nat):Bd x y z (i+1)=Di x y i (Bd x y z i):=rfl
def Cp(bad:Bool)(x:Nat->Int)(y:Nat->Int):(Nat->Int)×Bool:=let r1:=Bd x y ((fun _=>0),bad) 6;(r1.1,r1.2)
@[go_sem] theorem Ata (w:World):Sem.run Tryz.prog (zeroValue 227) w=.ok (.agg (row 78 (fun _=>0)).toArray) w:=by kernel_rfl
@[go_sem] theorem Aqk (w:World):Sem.run Tryz.prog (zeroValue 229) w=.ok (.agg (row 52 (fun _=>0)).toArray) w:=by kernel_rfl
@[go_sem] theorem Aql (w:World):Sem.run Tryz.prog (zeroValue 50) w=.ok (.agg (row 43 (fun _=>0)).toArray) w:=by kernel_rfl
end Go.Proofs.YtgmpfeaanjnhaaaGreatDoor
