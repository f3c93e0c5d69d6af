/-
A part.
A part.
-/
import Derived.Test.YtgmpfeaanjnhaaaGreatDoorRows
import Derived.Stop.LaidErr
import Derived.Lib.LaidTab
import Derived.Shelf.Vars
import Derived.Lay
import Derived.LaidMore
import Derived.MakeChecks
import Derived.OpenShut
import Derived.ProofKit
import Derived.Test.YtgmpfeaanjnhaaaGreatDoorU17
import Derived.Test.YtgmpfeaanjnhaaaGreatDoorU01
import Derived.Test.YtgmpfeaanjnhaaaGreatDoorU06
namespace Go.Proofs.YtgmpfeaanjnhaaaGreatDoor
open Go.RowKit
set_option maxRecDepth 100000
set_option maxHeartbeats 20000000
theorem Xl(s:ByteArray):s.data.toList.length=s.size:=rfl
theorem Gn(a b:ByteArray):(a++b).data.toList=a.data.toList++b.data.toList:=EW a b
def Am3(s r:ByteArray):Prop:=∀W,SW W->GW W->Calls Tryz.prog 7 #[.string s] W fun e w'=>e=.returned (.string r)/\Below W.heap.size W w'
def ansOf(F:Fs)(s:ByteArray):List UInt8:=runA (ansL F) (zeroCra,noBytes) (splitL 10 s.data.toList)
theorem Pq{F:Fs}(hF:Jv F){s:ByteArray}(h1:s.size<=65536)(h2:s.data.toList.count 10<=1024):Am3 s (mkB (ansOf F s)):=fun W hw hg=>Xk hF s W hw hg h1 h2
theorem Vt{F:Fs}(hF:Jv F)(w:World)(hw:SW w)(hg:GW w):Calls Tryz.prog 4 #[] w fun e w'=>e=.returned (.bool true)/\Below w.heap.size w w':=by
 have hr:=Xk hF (mkB Pp) w hw hg (by decide) (by decide)
 have e:runA (ansL F) (zeroCra,noBytes) (splitL 10 (mkB Pp).data.toList)=toldL:=Z5 hF
 rw[e]at hr
 have eA:mkB Pp=⟨#[111,114,100,101,114,32,55,32,49,10,115,116,101,112,32,53,48,48]⟩:=rfl
 have eT:mkB toldL=⟨#[111,107,10,51,32,48,32,55,32,48,32,48,32,48,32,48,32,48,32,48,32,48,32,48,32,48,10]⟩:=rfl
 rw[eA,eT]at hr
 clear e eA eT hw hg hF
 go_enter Tryz.func4,Tryz.ntmps4
 go_wp2_with (go_at_call 7;refine hr.mono ?_;rintro e w1 ⟨rfl,hb1⟩)
 go_ret
 exact⟨rfl,hb1⟩
theorem Jw{F:Fs}(hF:Jv F)(s t:ByteArray)(w:World)(hw:SW w)(hg:GW w)(hs:s.size<=1000000000000000)(ht:t.size<=1000000000000000):
    Calls Tryz.prog 3 #[.string s,.string t] w fun e w'=>e=.returned (.bool true)/\Below w.heap.size w w':=by
 have ha:=Vt hF w hw hg
 have HW:Hid (SW w):=hw
 have HG:Hid (GW w):=hg
 clear hw hg
 by_cases h0:4000<s.size+t.size
 ·go_enter Tryz.func3,Tryz.ntmps3
  go_wp2_with (go_at_call 4;refine ha.mono ?_;rintro e w1 ⟨rfl,hb1⟩)
  go_ret
  exact⟨rfl,hb1⟩
 have z10:(⟨#[10]⟩:ByteArray).size=1:=rfl
 have a1:=fun W=>run_string_add_sum (P:=Tryz.prog) W s ⟨#[10]⟩ (by omega)
 obtain⟨u1,hu1⟩:∃u:ByteArray,u=s++⟨#[10]⟩:=⟨_,rfl⟩
 rw[<-hu1]at a1
 have zu1:u1.size=s.size+1:=by rw[hu1,ByteArray.size_append,z10]
 have a2:=fun W=>run_string_add_sum (P:=Tryz.prog) W u1 t (by omega)
 obtain⟨u2,hu2⟩:∃u:ByteArray,u=u1++t:=⟨_,rfl⟩
 rw[<-hu2]at a2
 have zu2:u2.size=s.size+1+t.size:=by rw[hu2,ByteArray.size_append,zu1]
 have eu:u2.data.toList=s.data.toList++10::t.data.toList:=by rw[hu2,hu1,Gn,Gn,List.append_assoc];rfl
 have hl2:=fun W hW=>Mn u2 W hW (by omega)
 clear hu1 hu2
 by_cases h2:u2.data.toList.count 10<=1024
 case neg=>
  have e2:decide (u2.size<=65536/\u2.data.toList.count 10<=1024)=false:=decide_eq_false (by omega)
  unfold Dp at hl2
  rw[e2]at hl2
  clear e2 eu h2
  go_enter Tryz.func3,Tryz.ntmps3
  go_wp2_with (first |(go_at_call 4;refine ha.mono ?_;rintro e w1 ⟨rfl,hb1⟩)|(go_at_call 5;refine(hl2 _ (HG.out.below hb1)).mono ?_;rintro e w2 ⟨v,l,rfl,hv,hvl,hb2⟩))
  go_ret
  exact⟨rfl,Au hb1 hb2⟩
 have e2:decide (u2.size<=65536/\u2.data.toList.count 10<=1024)=true:=decide_eq_true ⟨by omega,h2⟩
 unfold Dp at hl2
 rw[e2]at hl2
 have hc1:s.data.toList.count 10<=1024:=by
  rw[eu,List.count_append]at h2
  omega
 have hRb:=Pq hF (by omega) h2
 have hRa:=Pq hF (s:=s) (by omega) hc1
 obtain⟨z,hz⟩:=SV (ansL F) (zeroCra,noBytes) s.data.toList t.data.toList
 have hz:ansOf F u2=ansOf F s++z:=by unfold ansOf;rw[eu];exact hz
 rw[hz]at hRb
 have hWd:Hid (∀d:ByteArray,d.data.toList=Cd s.data.toList->d.size<=65536->d.data.toList.count 10<=1024->Am3 d (mkB (ansOf F s))):=fun d hd h1 h2=>by
  have:=Pq hF h1 h2
  unfold ansOf at this ⊢
  rw[hd,Ac2]at this
  exact this
 generalize ansOf F s=A at hRa hRb hWd
 have zA:(mkB A).size=A.length:=by show A.toArray.size=_;simp
 have zB:(mkB (A++z)).size=A.length+z.length:=by show(A++z).toArray.size=_;simp
 have sl:∀W:World,(Instr.slice 9 (.string (mkB (A++z))) none (some (.int .i64 ((mkB A).size:Nat))) none).run Tryz.prog W=.ok (.string (mkB A)) W:=fun W=>by
  rw[run_slice_string_h W 9 _ Tryz.underlying9 .i64 ((mkB A).size:Nat) (by omega) (by omega)]
  have:(mkB (A++z)).extract 0 ((mkB A).size:Int).toNat=mkB A:=by
   apply ByteArray.ext
   apply Array.toList_inj.1
   rw[Cx]
   show List.take _ (List.drop 0 (A++z))=A
   rw[List.drop_zero]
   have e:((mkB A).size:Int).toNat-0=A.length:=by omega
   rw[e,List.take_left]
  rw[this]
 have lle:¬((mkB (A++z)).size<(mkB A).size):=by omega
 obtain⟨a,haE⟩:∃a,mkB A=a:=⟨_,rfl⟩
 obtain⟨b,hbE⟩:∃b,mkB (A++z)=b:=⟨_,rfl⟩
 rw[haE]at hRa sl lle hWd
 rw[hbE]at hRb sl lle
 have hcL:Hid (s.data.toList.length=s.size):=rfl
 have hbyte:Hid (∀k (h:k<s.size),((s[k]'h).toNat=chr s k)/\s.data.toList.drop k=UInt8.ofNat (chr s k)::s.data.toList.drop (k+1)):=fun k h=>by
  refine⟨Je h,?_⟩
  have hl:k<s.data.toList.length:=h
  rw[List.drop_eq_getElem_cons hl]
  unfold chr
  rw[List.getD_eq_getElem?_getD,List.getElem?_eq_getElem hl,Option.getD_some,UInt8.ofNat_toNat]
 clear e2 eu h2 hc1 hz zA zB haE hbE
 unfold Am3 at hRa hRb
 go_enter Tryz.func3,Tryz.ntmps3
 go_wp2_with (first
  |(go_at_call 4;refine ha.mono ?_;rintro e w1 ⟨rfl,hb1⟩)
  |(go_at_call 5;refine(hl2 _ (HG.out.below hb1)).mono ?_;rintro e w2 ⟨v,l,rfl,hv,hvl,hb2⟩;obtain⟨va,vc,rfl,_⟩:=hv.shape;have hb12:=Au hb1 hb2)
  |(go_at_call 6;refine(Vr _ _ l _ hv hvl).mono ?_;rintro e w3 ⟨n,rfl,hn,hb3⟩;have hb13:=Au hb12 hb3)
  |(go_at_call 7;first |(with_reducible refine(hRa _ (HW.out.below hb13) (HG.out.below hb13)).mono ?_;rintro e w4 ⟨rfl,hb4⟩;have hb14:=Au hb13 hb4)|(with_reducible refine(hRb _ (HW.out.below hb14) (HG.out.below hb14)).mono ?_;rintro e w5 ⟨rfl,hb5⟩;have hb15:=Au hb14 hb5)))
 ·go_ret
  exact⟨rfl,hb13⟩
 ·go_loopw [9,10] (fun wv iv wr=>∃(k:Nat) (acc:ByteArray),k<=s.size/\iv=.int .i64 k/\wv=.string acc/\Hid (acc.data.toList++Cd (s.data.toList.drop k)=Cd s.data.toList)/\acc.size<=13*k/\Below w.heap.size w wr) (fun _ i _=>s.size-(intOf i).toNat)
  case atStart=>exact⟨0,⟨#[]⟩,Nat.zero_le _,rfl,rfl,rfl,Nat.zero_le _,hb15⟩
  case round=>
   obtain⟨k,acc,hk,rfl,rfl,HX,hz,hnx⟩:=hrel
   clear hl2 sl a1 a2 hRb
   by_cases hks:k<s.size
   case neg=>
    obtain rfl:k=s.size:=by omega
    have HX2:acc.data.toList=Cd s.data.toList:=by
     have:=HX.out
     rw[List.drop_of_length_le (by rw[hcL.out];exact Nat.le_refl _)]at this
     rw[<-this]
     exact(List.append_nil _).symm
    have hl3:=fun W hW=>Mn acc W hW (by omega)
    unfold Dp at hl3
    by_cases h3:acc.data.toList.count 10<=1024
    case neg=>
     have e3:decide (acc.size<=65536/\acc.data.toList.count 10<=1024)=false:=decide_eq_false (fun h=>h3 h.2)
     rw[e3]at hl3
     clear e3 h3 HX2
     go_wp2_with (go_at_call 5;refine(hl3 _ (HG.out.below hnx)).mono ?_;rintro e w6 ⟨v6,l6,rfl,hv6,hvl6,hb6⟩)
     go_ret
     exact⟨rfl,Au hnx hb6⟩
    have e3:decide (acc.size<=65536/\acc.data.toList.count 10<=1024)=true:=decide_eq_true ⟨by omega,h3⟩
    rw[e3]at hl3
    have hRw:=hWd.out acc HX2 (by omega) h3
    unfold Am3 at hRw
    clear e3 h3 HX2
    go_wp2_with (first
     |(go_at_call 5;refine(hl3 _ (HG.out.below hnx)).mono ?_;rintro e w6 ⟨v6,l6,rfl,hv6,hvl6,hb6⟩;have hb16:=Au hnx hb6)
     |(go_at_call 7;first |(with_reducible refine(hRw _ (HW.out.below hb16) (HG.out.below hb16)).mono ?_;rintro e w7 ⟨rfl,hb7⟩;have hb17:=Au hb16 hb7)|(with_reducible refine(hRa _ (HW.out.below hb17) (HG.out.below hb17)).mono ?_;rintro e w8 ⟨rfl,hb8⟩;have hb18:=Au hb17 hb8)))
    go_ret
    exact⟨rfl,hb18⟩
   obtain⟨hby,hdr⟩:=hbyte.out k hks
   have hc8:=Hs s k
   generalize chr s k=c at hby hdr hc8
   have HD:Hid (s.data.toList.drop k=UInt8.ofNat c::s.data.toList.drop (k+1)):=hdr
   clear hdr hbyte hRa
   by_cases c32:c=32
   ·subst c32
    have e2:Hid ((acc++⟨#[32,32]⟩).data.toList++Cd (s.data.toList.drop (k+1))=Cd s.data.toList):=by
     show _=_
     rw[<-HX.out,HD.out,Gn]
     show _=acc.data.toList++Cd (32::_)
     rw[Cd,if_pos rfl,List.append_assoc]
     rfl
    have z2:(⟨#[32,32]⟩:ByteArray).size=2:=rfl
    have ad:=fun W=>run_string_add_sum (P:=Tryz.prog) W acc ⟨#[32,32]⟩ (by omega)
    have z3:(acc++⟨#[32,32]⟩).size<=13*(k+1):=by rw[ByteArray.size_append];omega
    generalize acc++⟨#[32,32]⟩=acc2 at e2 ad z3
    clear HX HD
    go_wp2
    go_roundw
    case rel=>exact⟨k+1,acc2,by omega,by go_num,rfl,e2,z3,hnx⟩
    case measure=>simp[intOf]<;>omega
   by_cases c10:c=10
   ·subst c10
    have e2:Hid ((acc++⟨#[32,10,10,35,32,115,116,101,112,32,49,10,32]⟩).data.toList++Cd (s.data.toList.drop (k+1))=Cd s.data.toList):=by
     show _=_
     rw[<-HX.out,HD.out,Gn]
     show _=acc.data.toList++Cd (10::_)
     rw[Cd,if_neg (by decide),if_pos rfl,List.append_assoc]
     rfl
    have z2:(⟨#[32,10,10,35,32,115,116,101,112,32,49,10,32]⟩:ByteArray).size=13:=rfl
    have ad:=fun W=>run_string_add_sum (P:=Tryz.prog) W acc ⟨#[32,10,10,35,32,115,116,101,112,32,49,10,32]⟩ (by omega)
    have z3:(acc++⟨#[32,10,10,35,32,115,116,101,112,32,49,10,32]⟩).size<=13*(k+1):=by rw[ByteArray.size_append];omega
    generalize acc++⟨#[32,10,10,35,32,115,116,101,112,32,49,10,32]⟩=acc2 at e2 ad z3
    clear HX HD
    go_wp2
    go_roundw
    case rel=>exact⟨k+1,acc2,by omega,by go_num,rfl,e2,z3,hnx⟩
    case measure=>simp[intOf]<;>omega
   ·have n32:((c:Int)==32)=false:=beq_eq_false_iff_ne.2 (by omega)
    have n10:((c:Int)==10)=false:=beq_eq_false_iff_ne.2 (by omega)
    have hsl:∀W:World,(Instr.slice 9 (.string s) (some (.int .i64 (k:Int))) (some (.int .i64 ((k:Int)+1))) none).run Tryz.prog W=.ok (.string (s.extract k (k+1))) W:=fun W=>by
     rw[run_slice_string W 9 s .i64 .i64 (k:Int) ((k:Int)+1) Tryz.underlying9 (by omega) (by omega) (by omega),show((k:Int)+1).toNat=k+1 by omega]
     rfl
    have hy:(s.extract k (k+1)).data.toList=[UInt8.ofNat c]:=by
     rw[Cx,HD.out,show k+1-k=1 by omega]
     rfl
    have hys:(s.extract k (k+1)).size=1:=by rw[ByteArray.size_extract];omega
    generalize s.extract k (k+1)=y at hsl hy hys
    have e2:Hid ((acc++y).data.toList++Cd (s.data.toList.drop (k+1))=Cd s.data.toList):=by
     show _=_
     rw[<-HX.out,HD.out,Gn,hy]
     have m32:UInt8.ofNat c≠32:=fun e=>c32 (by have:=congrArg UInt8.toNat e;rw[ofNat_toNat (by omega)]at this;exact this)
     have m10:UInt8.ofNat c≠10:=fun e=>c10 (by have:=congrArg UInt8.toNat e;rw[ofNat_toNat (by omega)]at this;exact this)
     rw[Cd,if_neg m32,if_neg m10,List.append_assoc]
     rfl
    have ad:=fun W=>run_string_add_sum (P:=Tryz.prog) W acc y (by omega)
    have z3:(acc++y).size<=13*(k+1):=by rw[ByteArray.size_append];omega
    generalize acc++y=acc2 at e2 ad z3
    clear HX HD hy
    go_wp2
    go_roundw
    case rel=>exact⟨k+1,acc2,by omega,by go_num,rfl,e2,z3,hnx⟩
    case measure=>simp[intOf]<;>omega
 ·go_ret
  exact⟨rfl,hb12⟩
end Go.Proofs.YtgmpfeaanjnhaaaGreatDoor
namespace Go.Proofs.YtgmpfeaanjnhaaaGreatDoor
open Go.ChangeShapes Go.WideShapes Go.ChangeAt Go.RowKit
def JS:List (String×DataW Unit):=[("alidade/field.atZero",Rows.laid_alidade_field_atZero),("alidade/field.inYear",Rows.laid_alidade_field_inYear),("math/bits.deBruijn32tab",Rows.laid_math_bits_deBruijn32tab),("math/bits.deBruijn64tab",Rows.laid_math_bits_deBruijn64tab),("internal/strconv.uint64pow10",Rows.laid_internal_strconv_uint64pow10),("unicode/utf8.acceptRanges",Rows.laid_unicode_utf8_acceptRanges),("strconv.ErrRange",Rows.laid_strconv_ErrRange),("strconv.ErrSyntax",Rows.laid_strconv_ErrSyntax),("unicode/utf8.first",Rows.laid_unicode_utf8_first)]
theorem gAt:Tryz.prog.globalNamed "alidade/field.atZero" =some 6:=by kernel_rfl
theorem gYr:Tryz.prog.globalNamed "alidade/field.inYear" =some 7:=by kernel_rfl
theorem tAt:(Tryz.prog.globals[6]?).map (·.type)=some 355:=by kernel_rfl
theorem tYr:(Tryz.prog.globals[7]?).map (·.type)=some 356:=by kernel_rfl
theorem Awk:Tryz.prog.globalNamed "internal/strconv.uint64pow10" =some 3:=by kernel_rfl
theorem Axz:(Tryz.prog.globals[3]?).map (·.type)=some 329:=by kernel_rfl
theorem gER:Tryz.prog.globalNamed "strconv.ErrRange" =some 5:=by kernel_rfl
theorem tER:(Tryz.prog.globals[5]?).map (·.type)=some 62:=by kernel_rfl
theorem gES:Tryz.prog.globalNamed "strconv.ErrSyntax" =some 4:=by kernel_rfl
theorem tES:(Tryz.prog.globals[4]?).map (·.type)=some 62:=by kernel_rfl
theorem Xn: "*" ++ "errors.errorString" = "*errors.errorString" :=by decide
theorem Aif(u:TypeId)(h:Tryz.prog.typeName? 3 u=some "*errors.errorString"):u=350:=
 typeName_ptr_named (nm:= "errors.errorString") (by rw[Xn];kernel_rfl) (by kernel_rfl) (by decide) u (by rw[Xn];exact h)
theorem Asx:Tryz.prog.cellsOf 2=1:=by kernel_rfl
theorem Aoj:Tryz.prog.cellsOf 354=2:=by kernel_rfl
theorem Am4:Tryz.prog.cellsOf 355=54:=by kernel_rfl
theorem Am5:Tryz.prog.cellsOf 356=10:=by kernel_rfl
def Jx(zs:List (Int×Int)):List (DataW Unit):=zs.map fun z=>Lib.tabData .i64 [z.1,z.2]
theorem Am6{w:World}{fuel:Nat}{cs:List Value}{z:Int×Int}{p:List MemPlace}(h:DataW.trod (fun _=>()) Tryz.prog w 0 (fun _=>true) false fuel 354 cs=some (Lib.tabData .i64 [z.1,z.2],p)):cs=[.int .i64 z.1,.int .i64 z.2]:=
 Lib.cells_of_tab Tryz.underlying354 Tryz.underlying2 Asx Aoj h
theorem NK{w:World}{fuel n:Nat}{t:TypeId}{cs:List Value}{zs:List (Int×Int)}{p:List MemPlace}(ht:Tryz.prog.underlying t=some (.array n 354))(hc:Tryz.prog.cellsOf t=2*n)
    (h:DataW.trod (fun _=>()) Tryz.prog w 0 (fun _=>true) false fuel t cs=some (.agg (Jx zs),p)):cs.length=2*n/\∀i,i<n->cs[2*i]? =some (.int .i64 (zs.getD i (0,0)).1)/\cs[2*i+1]? =some (.int .i64 (zs.getD i (0,0)).2):=by
 obtain⟨xs,m,rfl,hx,hl,hn,hel⟩:=DataW.trod_array ht h
 refine⟨by rw[hl,hc],fun i hi=>?_⟩
 simp only[Prod.mk.injEq,DataW.agg.injEq]at hx
 have hz:zs.length=n:=by
  have:=congrArg List.length hx.1
  unfold Jx at this
  simp at this
  omega
 have h1:=hel i hi
 have hxi:i<xs.length:=by omega
 have e1:xs[i]? =some xs[i]:=List.getElem?_eq_getElem hxi
 have e2:xs[i].1=Lib.tabData .i64 [(zs.getD i (0,0)).1,(zs.getD i (0,0)).2]:=by
  have a:(Jx zs)[i]? =(xs.map (·.1))[i]? :=by rw[hx.1]
  unfold Jx at a
  rw[List.getElem?_map,List.getElem?_map,e1]at a
  have b:zs[i]? =some (zs.getD i (0,0)):=by rw[List.getD_eq_getElem?_getD,List.getElem?_eq_getElem (by omega)];rfl
  rw[b]at a
  simp only[Option.map_some,Option.some.injEq]at a
  exact a.symm
 rw[e1,Aoj]at h1
 have h2:=Am6 (z:=zs.getD i (0,0)) (p:=xs[i].2) (h1.trans (by rw[<-e2]))
 have g0:((cs.drop (i*2)).take 2)[0]? =some (.int .i64 (zs.getD i (0,0)).1):=by rw[h2];rfl
 have g1:((cs.drop (i*2)).take 2)[1]? =some (.int .i64 (zs.getD i (0,0)).2):=by rw[h2];rfl
 rw[List.getElem?_take_of_lt (by decide),List.getElem?_drop]at g0 g1
 rw[show i*2+0=2*i by omega]at g0
 rw[show i*2+1=2*i+1 by omega]at g1
 exact⟨g0,g1⟩
def atP:List (Int×Int):=[(-293500,0),(-14103,45455),(-25562,0),(29509,-31336),(16487,-8142),(13609,0),(-24042,-569),(12438,2376),(4534,-5496),(8947,0),(7996,2786),(558,-1340),(-2811,2120),(120,-3754),(-2329,0),(3690,453),(1872,2200),(-1387,-1229),(-1419,429),(209,1062),(643,0),(638,-184),(767,168),(-1157,489),(-409,-598),(149,109),(-608,728)]
def yrP:List (Int×Int):=[(126,0),(100,-215),(-112,0),(-53,-273),(-83,-111)]
theorem Asy(i:Nat)(h:i<27):(atP.getD i (0,0)).1=GG (2*i)/\(atP.getD i (0,0)).2=GG (2*i+1):=by
 have a:((List.range 27).all fun i=>decide ((atP.getD i (0,0)).1=GG (2*i)/\(atP.getD i (0,0)).2=GG (2*i+1)))=true:=by decide+kernel
 exact of_decide_eq_true (List.all_eq_true.1 a i (List.mem_range.2 h))
theorem Asz(i:Nat)(h:i<5):(yrP.getD i (0,0)).1=JU (2*i)/\(yrP.getD i (0,0)).2=JU (2*i+1):=by
 have a:((List.range 5).all fun i=>decide ((yrP.getD i (0,0)).1=JU (2*i)/\(yrP.getD i (0,0)).2=JU (2*i+1)))=true:=by decide+kernel
 exact of_decide_eq_true (List.all_eq_true.1 a i (List.mem_range.2 h))
theorem Aig{W:World}{name:String}{g n:Nat}{cs:Array Value}{zs:List (Int×Int)}{f:Nat->Int}{ps:List MemPlace}(hg:Tryz.prog.globalNamed name=some g)(hv:W.var? Tryz.prog name=some cs)(hl:cs.toList.length=2*n)
    (hc:∀i,i<n->cs.toList[2*i]? =some (.int .i64 (zs.getD i (0,0)).1)/\cs.toList[2*i+1]? =some (.int .i64 (zs.getD i (0,0)).2)) (hf:∀i,i<n->(zs.getD i (0,0)).1=f (2*i)/\(zs.getD i (0,0)).2=f (2*i+1))
    (hp:∀i,i<cs.size->MemPlace.cell g i∈ps) (hfz:∀b off,MemPlace.cell b off∈ps->(∃c t,W.heap[b]? =some (.cells c t (0,0)))/\∀u v,W.cell? ⟨b,off,none⟩=some (.iface u v)->Value.okWide Tryz.prog W .any 0 u v) (n0:0<n):Ap g (row (2*n) f) W:=by
 have hsz:cs.size=2*n:=by simpa using hl
 obtain⟨⟨c,t,hb⟩,_⟩:=hfz g 0 (hp 0 (by omega))
 refine⟨fun i hi=>?_,fun i _=>?_,(Array.getElem?_eq_some_iff.1 hb).1⟩
 ·have hi':i<2*n:=by rw[BU]at hi;exact hi
  rw[Fg,World.var?_cell hg hv i,<-Array.getElem?_toList]
  obtain⟨h0,h1⟩:=hc (i / 2) (by omega)
  obtain⟨f0,f1⟩:=hf (i / 2) (by omega)
  by_cases e:i % 2=0
  ·rw[show 2*(i / 2)=i by omega]at h0 f0
   rw[h0,f0]
  ·rw[show 2*(i / 2)+1=i by omega]at h1 f1
   rw[h1,f1]
 ·unfold World.frozen?
  show(match W.heap[g]? with |some (.cells _ _ (lo,hi))=>decide (lo<=i)&&decide (i<hi)|_=>false)=false
  rw[hb]
  simp
theorem As0:(Rows.laid_internal_strconv_uint64pow10:DataW Unit)=Lib.tabData .u64 Lib.pow10Tab:=by rfl
theorem Am7{W:World}{r:List (String×DataW Unit)}(h:laidMet Tryz.prog (("alidade/field.atZero",Rows.laid_alidade_field_atZero)::("alidade/field.inYear",Rows.laid_alidade_field_inYear)::r) W):Ap 6 (row 54 GG) W/\Ap 7 (row 10 JU) W:=by
 obtain⟨ps,⟨g0,t0,cs0,f0,p0,q0,hg0,ht0,hv0,hd0,⟨g1,t1,cs1,f1,p1,q1,hg1,ht1,hv1,hd1,_,e1⟩,e0⟩,_,hfz⟩:=h
 obtain rfl:=Option.some.inj (gAt.symm.trans hg0)
 obtain rfl:=Option.some.inj (gYr.symm.trans hg1)
 obtain rfl:=Option.some.inj (tAt.symm.trans ht0)
 obtain rfl:=Option.some.inj (tYr.symm.trans ht1)
 obtain⟨l0,c0⟩:=NK (n:=27) (zs:=atP) Tryz.underlying355 Am4 (show DataW.trod _ Tryz.prog W 0 _ false f0 355 cs0.toList=some (.agg (Jx atP),p0)from hd0)
 obtain⟨l1,c1⟩:=NK (n:=5) (zs:=yrP) Tryz.underlying356 Am5 (show DataW.trod _ Tryz.prog W 0 _ false f1 356 cs1.toList=some (.agg (Jx yrP),p1)from hd1)
 have m0:∀i,i<cs0.size->MemPlace.cell 6 i∈ps:=fun i hi=>by rw[e0];simp[MemPlace.row,hi]
 have m1:∀i,i<cs1.size->MemPlace.cell 7 i∈ps:=fun i hi=>by rw[e0,e1];simp[MemPlace.row,hi]
 exact⟨Aig (n:=27) gAt hv0 l0 c0 Asy m0 hfz (by decide),Aig (n:=5) gYr hv1 l1 c1 Asz m1 hfz (by decide)⟩
theorem NL{P:Program}{w:World}{name:String}{g:Nat}{cs:Array Value}(hg:P.globalNamed name=some g)(h:w.var? P name=some cs):∃t f,w.heap[g]? =some (.cells cs t f):=by
 unfold World.var? at h
 rw[hg]at h
 simp only[Option.bind_some]at h
 split at h
 ·rename_i cs t f e
  cases h
  exact⟨t,f,e⟩
 ·cases h
theorem Am8{W:World}(hs:W.ShapedOpen Tryz.prog)(h:laidMetH Tryz.prog JS W):SW W/\GW W:=by
 rw[MakeChecks.laidMetH_plain _ _ _ (by kernel_rfl)]at h
 have hg:=Am7 h
 have h4:laidMet Tryz.prog (("internal/strconv.uint64pow10",Rows.laid_internal_strconv_uint64pow10)::JS.drop 5) W:=h.tail.tail.tail.tail
 have h6:=h4.tail.tail
 obtain⟨a1,s1,hv1,-,-,-⟩:=laid_sentinel h6 gER tER Tryz.underlying62 Aif Tryz.underlying350 Tryz.underlying352 rfl rfl Tryz.underlying9 (by kernel_rfl) (by kernel_rfl)
 obtain⟨a0,s0,hv0,-,-,-⟩:=laid_sentinel h6.tail gES tES Tryz.underlying62 Aif Tryz.underlying350 Tryz.underlying352 rfl rfl Tryz.underlying9 (by kernel_rfl) (by kernel_rfl)
 rw[As0]at h4
 have ht:=Lib.tabIs_of_head Awk Axz Tryz.underlying329 Tryz.underlying98 (by kernel_rfl) (by kernel_rfl) h4
 refine⟨⟨cell_of_shapedOpen_int (k:=.i64) hs (g:=0) (t:=3) (zero:=#[.int .i64 0]) (of_decide_eq_true (by kernel_rfl)) (by kernel_rfl) (by rfl) (by kernel_rfl) (by kernel_rfl) Tryz.underlying3,⟨_,_,NL gES hv0⟩,⟨_,_,by have h0:=World.var?_cell gER hv1 0;simpa using h0⟩,?_⟩,hg⟩
 exact NL Awk ht
theorem Am9(os:Os)(args:Array Value):laidMetH Tryz.prog JS ((World.laidAll Tryz.prog os JS).forCall (fun _ _=>0) ⟨#[],args,[]⟩).memory:=by
 rw[MakeChecks.laidMetH_plain _ _ _ (by kernel_rfl)]
 exact laidMet_laidAll _ (by kernel_rfl) (by kernel_rfl)
end Go.Proofs.YtgmpfeaanjnhaaaGreatDoor
