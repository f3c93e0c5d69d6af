/-
A part.
A part.
A part.
A part.
A part.
A part.
A part.
A part.
A part.
A part.
A part.
A part.
A part.
-/
import Derived.Deep.Cut
import Derived.Laws.StructEq
import Derived.ChangeKeysEq
import Derived.Laws.ResultCell
import Derived.RegionTactic
import Derived.BigRegion
import Derived.Test.YtgmpfeaanjnhaaaGreatDoorU10
import Derived.Test.YtgmpfeaanjnhaaaGreatDoorU15
import Derived.Test.YtgmpfeaanjnhaaaGreatDoorU05
import Derived.Test.YtgmpfeaanjnhaaaGreatDoorU01
import Derived.Test.YtgmpfeaanjnhaaaGreatDoorU06
import Derived.Test.YtgmpfeaanjnhaaaGreatDoorU07
import Derived.Test.YtgmpfeaanjnhaaaGreatDoorU09
namespace Go.Proofs.YtgmpfeaanjnhaaaGreatDoor
open Go.RowKit
set_option maxRecDepth 100000
set_option maxHeartbeats 20000000
theorem Va(k:Int)(s:ByteArray)(w:World)(h:k≠32):
    Calls Tryz.prog 81 #[.agg #[.int .i64 k,.string s]] w fun e w'=>e=.returned (.tuple #[.agg #[.int .i64 0,.int .i64 0,.int .i64 0,.int .i64 0,.int .i64 0,.int .i64 0,.int .i64 0,.int .i64 0,.int .i64 0,.int .i64 0,.int .i64 0,.int .i64 0,.int .i64 0],.bool false])/\Below w.heap.size w w':=by
 have h':(k != 32)=true:=by simpa using h
 go_enter Tryz.func81,Tryz.ntmps81
 go_wp2_with (with_reducible refine Ae ?_)
 exact⟨bodyPost_ret (v:=.tuple #[.agg #[.int .i64 0,.int .i64 0,.int .i64 0,.int .i64 0,.int .i64 0,.int .i64 0,.int .i64 0,.int .i64 0,.int .i64 0,.int .i64 0,.int .i64 0,.int .i64 0,.int .i64 0],.bool false]) (by simp[results_cell_tmp Tryz.results81,asAddr,go_sem]) rfl ⟨rfl,Ai (Ai (Below.refl _ _) _) _⟩⟩
theorem Vb(s:ByteArray)(w:World)(h:s.size≠26):
    Calls Tryz.prog 81 #[.agg #[.int .i64 32,.string s]] w fun e w'=>e=.returned (.tuple #[.agg #[.int .i64 0,.int .i64 0,.int .i64 0,.int .i64 0,.int .i64 0,.int .i64 0,.int .i64 0,.int .i64 0,.int .i64 0,.int .i64 0,.int .i64 0,.int .i64 0,.int .i64 0],.bool false])/\Below w.heap.size w w':=by
 have h':(((s.size:Nat):Int) != 26)=true:=by simp;omega
 go_enter Tryz.func81,Tryz.ntmps81
 go_wp2_with (with_reducible refine Ae ?_)
 exact⟨bodyPost_ret (v:=.tuple #[.agg #[.int .i64 0,.int .i64 0,.int .i64 0,.int .i64 0,.int .i64 0,.int .i64 0,.int .i64 0,.int .i64 0,.int .i64 0,.int .i64 0,.int .i64 0,.int .i64 0,.int .i64 0],.bool false]) (by simp[results_cell_tmp Tryz.results81,asAddr,go_sem]) rfl ⟨rfl,Ai (Ai (Below.refl _ _) _) _⟩⟩
theorem ZF(s:ByteArray)(w:World)(hs:s.size=26)(h:tlOk (tlE s)=false):
    Calls Tryz.prog 81 #[.agg #[.int .i64 32,.string s]] w fun e w'=>e=.returned (.tuple #[.agg #[.int .i64 0,.int .i64 0,.int .i64 0,.int .i64 0,.int .i64 0,.int .i64 0,.int .i64 0,.int .i64 0,.int .i64 0,.int .i64 0,.int .i64 0,.int .i64 0,.int .i64 0],.bool false])/\Below w.heap.size w w':=by
 have hm:∀W:World,Calls Tryz.prog 121 #[.agg #[.int .i64 (tickS s),.int .i64 (bt s 6:Nat),.int .i64 (bt s 7:Nat),.int .i64 (bt s 8:Nat),.int .i64 (bt s 9:Nat),.int .i64 (cnt s 10:Nat),.int .i64 (sg (cnt s 12)),.int .i64 (sg (cnt s 14)),.int .i64 (sg (cnt s 16)),.int .i64 (sg (cnt s 18)),.int .i64 (sg (cnt s 20)),.int .i64 (sg (cnt s 22)),.int .i64 (sg (cnt s 24))]] W fun e w'=>e=.returned (.bool (tlOk (tlE s)))/\Below W.heap.size W w':=EI (tlE s)
 rw[h]at hm
 clear h
 have hj:=fun W=>JN (s.extract 0 6) W (by rw[ByteArray.size_extract];omega)
 rw[I9]at hj
 have hp:=fun W=>Jl s 10 10 W rfl (by omega) (by omega)
 have hs0:=fun W=>AW s 12 12 W rfl (by omega) (by omega)
 have hs1:=fun W=>AW s 14 14 W rfl (by omega) (by omega)
 have hs2:=fun W=>AW s 16 16 W rfl (by omega) (by omega)
 have hs3:=fun W=>AW s 18 18 W rfl (by omega) (by omega)
 have hs4:=fun W=>AW s 20 20 W rfl (by omega) (by omega)
 have hs5:=fun W=>AW s 22 22 W rfl (by omega) (by omega)
 have hs6:=fun W=>AW s 24 24 W rfl (by omega) (by omega)
 have i6:=B9 (s:=s) (i:=6) (n:=6) (by omega) rfl
 have i7:=B9 (s:=s) (i:=7) (n:=7) (by omega) rfl
 have i8:=B9 (s:=s) (i:=8) (n:=8) (by omega) rfl
 have i9:=B9 (s:=s) (i:=9) (n:=9) (by omega) rfl
 have hsl:∀W:World,(Instr.slice 9 (.string s) none (some (.int .i64 6)) none).run Tryz.prog W=.ok (.string (s.extract 0 6)) W:=fun W=>by
  rw[run_slice_string_to_if W 9 s .i64 6 Tryz.underlying9,if_pos (by omega)]
  rfl
 generalize s.extract 0 6=y at *
 have l6:=CU s 6
 have l7:=CU s 7
 have l8:=CU s 8
 have l9:=CU s 9
 have l10:=Eo s 10
 generalize tickS s=x0 at *
 generalize bt s 6=y1 at *
 generalize bt s 7=y2 at *
 generalize bt s 8=y3 at *
 generalize bt s 9=y4 at *
 generalize cnt s 10=y5 at *
 generalize sg (cnt s 12)=x6 at *
 generalize sg (cnt s 14)=x7 at *
 generalize sg (cnt s 16)=x8 at *
 generalize sg (cnt s 18)=x9 at *
 generalize sg (cnt s 20)=x10 at *
 generalize sg (cnt s 22)=x11 at *
 generalize sg (cnt s 24)=x12 at *
 have u1:IntKind.i64.wrap (y1:Int)=y1:=by rw[IntKind.wrap_i64];omega
 have u2:IntKind.i64.wrap (y2:Int)=y2:=by rw[IntKind.wrap_i64];omega
 have u3:IntKind.i64.wrap (y3:Int)=y3:=by rw[IntKind.wrap_i64];omega
 have u4:IntKind.i64.wrap (y4:Int)=y4:=by rw[IntKind.wrap_i64];omega
 have u5:IntKind.i64.wrap (y5:Int)=y5:=by rw[IntKind.wrap_i64];omega
 clear l6
 generalize (y1:Int)=x1 at *
 clear l7
 generalize (y2:Int)=x2 at *
 clear l8
 generalize (y3:Int)=x3 at *
 clear l9
 generalize (y4:Int)=x4 at *
 clear l10
 generalize (y5:Int)=x5 at *
 go_enter Tryz.func81,Tryz.ntmps81
 go_upto_region 4 with fail
 go_cut [5]from 8 (fun p wx=>p=.pointer (some ⟨w.heap.size+1+1,0,none⟩)/\wx=(((w.alloc (.cells #[.int .i64 32,.string s] 77)).alloc (.cells #[.int .i64 0,.int .i64 0,.int .i64 0,.int .i64 0,.int .i64 0,.int .i64 0,.int .i64 0,.int .i64 0,.int .i64 0,.int .i64 0,.int .i64 0,.int .i64 0,.int .i64 0] 148)).alloc (.cells #[.int .i64 x0,.int .i64 x1,.int .i64 x2,.int .i64 x3,.int .i64 x4,.int .i64 x5,.int .i64 0,.int .i64 0,.int .i64 0,.int .i64 0,.int .i64 0,.int .i64 0,.int .i64 0] 148)).drew.drew)
 case first=>
  refine wp_region_held_drew (S:=fun _=>True) (by kernel_rfl) trivial (fun zH=>?_)
  refine zT 0 rfl (by kernel_rfl) (fun _ _ _=>id) rfl (fun _ _=>by go_simp<;>with_reducible rfl) zH ?_
  simp only[Act.put,zA,zB,zC]
  refine zT 1 rfl (by kernel_rfl) (fun _ _ _=>id) rfl (fun _ _=>by go_simp<;>with_reducible rfl) zH ?_
  simp only[Act.put,zA,zB,zC]
  refine zT 3 rfl (by kernel_rfl) (fun _ _ _=>id) rfl (fun _ _=>by go_simp<;>with_reducible rfl) zH ?_
  simp only[Act.put,zA,zB,zC]
  refine zT 4 rfl (by kernel_rfl) (fun _ _ _=>id) rfl (fun _ _=>by go_simp<;>with_reducible rfl) zH ?_
  simp only[Act.put,zA,zB,zC]
  refine zT 5 rfl (by kernel_rfl) (fun _ _ _=>id) rfl (fun _ _=>by go_simp<;>with_reducible rfl) zH ?_
  simp only[Act.put,zA,zB,zC]
  refine zT 6 rfl (by kernel_rfl) (fun _ _ _=>id) rfl (fun _ _=>by go_simp<;>with_reducible rfl) zH ?_
  simp only[Act.put,zA,zB,zC]
  refine zT 7 rfl (by kernel_rfl) (fun _ _ _=>id) rfl (fun _ _=>by go_simp<;>with_reducible rfl) zH ?_
  simp only[Act.put,zA,zB,zC]
  refine zT 8 rfl (by kernel_rfl) (fun _ _ _=>id) rfl (fun _ _=>by go_simp<;>with_reducible rfl) zH ?_
  simp only[Act.put,zA,zB,zC]
  refine zT 9 rfl (by kernel_rfl) (fun _ _ _=>id) rfl (fun _ _=>by go_simp<;>with_reducible rfl) zH ?_
  simp only[Act.put,zA,zB,zC]
  refine zT 10 rfl (by kernel_rfl) (fun _ _ _=>id) rfl (fun _ _=>by go_simp<;>with_reducible rfl) zH ?_
  simp only[Act.put,zA,zB,zC]
  refine zT 11 rfl (by kernel_rfl) (fun _ _ _=>id) rfl (fun _ _=>by go_simp<;>with_reducible rfl) zH ?_
  simp only[Act.put,zA,zB,zC]
  refine zT 12 rfl (by kernel_rfl) (fun _ _ _=>id) rfl (fun _ _=>by go_simp<;>with_reducible rfl) zH ?_
  simp only[Act.put,zA,zB,zC]
  refine zT 13 rfl (by kernel_rfl) (fun _ _ _=>id) rfl (fun _ _=>by go_simp<;>with_reducible rfl) zH ?_
  simp only[Act.put,zA,zB,zC]
  refine zT 14 rfl (by kernel_rfl) (fun _ _ _=>id) rfl (fun _ _=>by go_simp<;>with_reducible rfl) zH ?_
  simp only[Act.put,zA,zB,zC]
  refine zT 15 rfl (by kernel_rfl) (fun _ _ _=>id) rfl (fun _ _=>by go_simp<;>with_reducible rfl) zH ?_
  simp only[Act.put,zA,zB,zC]
  refine Ij (i0:=2) (i1:=19) (by kernel_rfl) rfl rfl (fun K hK=>?_) (fun K hK=>?_)
  ·go_simp
   refine(hj _).mono ?_
   rintro e X ⟨rfl,rfl⟩
   clear zH
   refine hK.out _ _ trivial (fun zH=>?_)
   clear hK K
   refine Ij (i0:=16) (i1:=19) (by kernel_rfl) rfl rfl (fun K hK=>?_) (fun K hK=>?_)
   ·go_simp
    refine(hp _).mono ?_
    rintro e X ⟨rfl,rfl⟩
    clear zH
    refine hK.out _ _ trivial (fun zH=>?_)
    clear hK K
    refine zT 17 rfl (by kernel_rfl) (fun _ _ _=>id) rfl (fun _ _=>by go_simp<;>with_reducible rfl) zH ?_
    simp only[Act.put,zA,zB,zC]
    refine zT 18 rfl (by kernel_rfl) (fun _ _ _=>id) rfl (fun _ _=>by go_simp<;>with_reducible rfl) zH ?_
    simp only[Act.put,zA,zB,zC]
    refine zK 19 (by kernel_rfl) rfl (fun K hK=>?_)
    go_simp
    clear zH
    refine hK.out _ _ trivial (fun zH=>?_)
    clear hK K
    refine zK 20 (by kernel_rfl) rfl (fun K hK=>?_)
    go_simp
    clear zH
    refine hK.out _ _ trivial (fun zH=>?_)
    clear hK K
    refine wpAnyH_done (by kernel_rfl) ?_ _
    clear zH
    go_wp2_with fail
    go_meet
    case rel=>exact⟨rfl,rfl⟩
   ·go_simp
    clear zH
    refine hK.out _ _ trivial (fun zH=>?_)
    clear hK K
    refine zK 16 (by kernel_rfl) rfl (fun K hK=>?_)
    go_simp
    refine(hp _).mono ?_
    rintro e X ⟨rfl,rfl⟩
    clear zH
    refine hK.out _ _ trivial (fun zH=>?_)
    clear hK K
    refine zT 17 rfl (by kernel_rfl) (fun _ _ _=>id) rfl (fun _ _=>by go_simp<;>with_reducible rfl) zH ?_
    simp only[Act.put,zA,zB,zC]
    refine zT 18 rfl (by kernel_rfl) (fun _ _ _=>id) rfl (fun _ _=>by go_simp<;>with_reducible rfl) zH ?_
    simp only[Act.put,zA,zB,zC]
    refine zK 20 (by kernel_rfl) rfl (fun K hK=>?_)
    go_simp
    clear zH
    refine hK.out _ _ trivial (fun zH=>?_)
    clear hK K
    refine wpAnyH_done (by kernel_rfl) ?_ _
    clear zH
    go_wp2_with fail
    go_meet
    case rel=>exact⟨rfl,rfl⟩
  ·go_simp
   clear zH
   refine hK.out _ _ trivial (fun zH=>?_)
   clear hK K
   refine zK 2 (by kernel_rfl) rfl (fun K hK=>?_)
   go_simp
   refine(hj _).mono ?_
   rintro e X ⟨rfl,rfl⟩
   clear zH
   refine hK.out _ _ trivial (fun zH=>?_)
   clear hK K
   refine zK 16 (by kernel_rfl) rfl (fun K hK=>?_)
   go_simp
   refine(hp _).mono ?_
   rintro e X ⟨rfl,rfl⟩
   clear zH
   refine hK.out _ _ trivial (fun zH=>?_)
   clear hK K
   refine zT 17 rfl (by kernel_rfl) (fun _ _ _=>id) rfl (fun _ _=>by go_simp<;>with_reducible rfl) zH ?_
   simp only[Act.put,zA,zB,zC]
   refine zT 18 rfl (by kernel_rfl) (fun _ _ _=>id) rfl (fun _ _=>by go_simp<;>with_reducible rfl) zH ?_
   simp only[Act.put,zA,zB,zC]
   refine zK 20 (by kernel_rfl) rfl (fun K hK=>?_)
   go_simp
   clear zH
   refine hK.out _ _ trivial (fun zH=>?_)
   clear hK K
   refine wpAnyH_done (by kernel_rfl) ?_ _
   clear zH
   go_wp2_with fail
   go_meet
   case rel=>exact⟨rfl,rfl⟩
 obtain⟨rfl,rfl⟩:=hcut
 clear hj hp hsl i6 i7 i8 i9
 go_wp2_with fail
 refine wp_loop_rounds 5 ?_
 rw[rounds_succ]
 go_wp2_with fail
 refine(hs0 _).mono ?_
 rintro e X ⟨rfl,rfl⟩
 go_wp2_with fail
 rw[rounds_succ]
 go_wp2_with fail
 refine(hs1 _).mono ?_
 rintro e X ⟨rfl,rfl⟩
 go_wp2_with fail
 rw[rounds_succ]
 go_wp2_with fail
 refine(hs2 _).mono ?_
 rintro e X ⟨rfl,rfl⟩
 go_wp2_with fail
 rw[rounds_succ]
 go_wp2_with fail
 refine(hs3 _).mono ?_
 rintro e X ⟨rfl,rfl⟩
 go_wp2_with fail
 rw[rounds_succ]
 go_wp2_with fail
 refine wp_loop_rounds 4 ?_
 rw[rounds_succ]
 go_wp2_with fail
 refine(hs4 _).mono ?_
 rintro e X ⟨rfl,rfl⟩
 go_wp2_with fail
 rw[rounds_succ]
 go_wp2_with fail
 refine(hs5 _).mono ?_
 rintro e X ⟨rfl,rfl⟩
 go_wp2_with fail
 rw[rounds_succ]
 go_wp2_with fail
 refine(hs6 _).mono ?_
 rintro e X ⟨rfl,rfl⟩
 go_wp2_with fail
 rw[rounds_succ]
 go_wp2_with fail
 refine(hm _).mono ?_
 rintro e W1 ⟨rfl,k1⟩
 have L1:=Au (Bf (Bf (Bf (Bf (Bf (Bf (Bf (Bf (Bf (Ai (Ai (Ai (Below.refl _ w) (.cells #[.int .i64 32,.string s] 77)) (.cells #[.int .i64 0,.int .i64 0,.int .i64 0,.int .i64 0,.int .i64 0,.int .i64 0,.int .i64 0,.int .i64 0,.int .i64 0,.int .i64 0,.int .i64 0,.int .i64 0,.int .i64 0] 148)) (.cells #[.int .i64 x0,.int .i64 x1,.int .i64 x2,.int .i64 x3,.int .i64 x4,.int .i64 x5,.int .i64 x6,.int .i64 x7,.int .i64 x8,.int .i64 x9,.int .i64 x10,.int .i64 x11,.int .i64 x12] 148))))))))))) k1
 have R1:=((((Am (w.alloc (.cells #[.int .i64 32,.string s] 77)) (w.heap.size+1) [.int .i64 0,.int .i64 0,.int .i64 0,.int .i64 0,.int .i64 0,.int .i64 0,.int .i64 0,.int .i64 0,.int .i64 0,.int .i64 0,.int .i64 0,.int .i64 0,.int .i64 0] 148 (by simp)).alloc (.cells #[.int .i64 x0,.int .i64 x1,.int .i64 x2,.int .i64 x3,.int .i64 x4,.int .i64 x5,.int .i64 x6,.int .i64 x7,.int .i64 x8,.int .i64 x9,.int .i64 x10,.int .i64 x11,.int .i64 x12] 148))).drew.drew.drew.drew.drew.drew.drew.drew.drew).below k1
 have O1:=((Am ((w.alloc (.cells #[.int .i64 32,.string s] 77)).alloc (.cells #[.int .i64 0,.int .i64 0,.int .i64 0,.int .i64 0,.int .i64 0,.int .i64 0,.int .i64 0,.int .i64 0,.int .i64 0,.int .i64 0,.int .i64 0,.int .i64 0,.int .i64 0] 148)) (w.heap.size+1+1) [.int .i64 x0,.int .i64 x1,.int .i64 x2,.int .i64 x3,.int .i64 x4,.int .i64 x5,.int .i64 x6,.int .i64 x7,.int .i64 x8,.int .i64 x9,.int .i64 x10,.int .i64 x11,.int .i64 x12] 148 (by simp)).drew.drew.drew.drew.drew.drew.drew.drew.drew).below k1
 clear k1
 have zr:=R1.lies
 have zo:=O1.lies
 have c0:W1.cell? ⟨w.heap.size+1,0,none⟩=some (.int .i64 0):=R1.c 0 (zD rfl)
 have f0:=R1.f 0 (zD rfl)
 have c1:W1.cell? ⟨w.heap.size+1,1,none⟩=some (.int .i64 0):=R1.c 1 (zD rfl)
 have f1:=R1.f 1 (zD rfl)
 have c2:W1.cell? ⟨w.heap.size+1,2,none⟩=some (.int .i64 0):=R1.c 2 (zD rfl)
 have f2:=R1.f 2 (zD rfl)
 have c3:W1.cell? ⟨w.heap.size+1,3,none⟩=some (.int .i64 0):=R1.c 3 (zD rfl)
 have f3:=R1.f 3 (zD rfl)
 have c4:W1.cell? ⟨w.heap.size+1,4,none⟩=some (.int .i64 0):=R1.c 4 (zD rfl)
 have f4:=R1.f 4 (zD rfl)
 have c5:W1.cell? ⟨w.heap.size+1,5,none⟩=some (.int .i64 0):=R1.c 5 (zD rfl)
 have f5:=R1.f 5 (zD rfl)
 have c6:W1.cell? ⟨w.heap.size+1,6,none⟩=some (.int .i64 0):=R1.c 6 (zD rfl)
 have f6:=R1.f 6 (zD rfl)
 have c7:W1.cell? ⟨w.heap.size+1,7,none⟩=some (.int .i64 0):=R1.c 7 (zD rfl)
 have f7:=R1.f 7 (zD rfl)
 have c8:W1.cell? ⟨w.heap.size+1,8,none⟩=some (.int .i64 0):=R1.c 8 (zD rfl)
 have f8:=R1.f 8 (zD rfl)
 have c9:W1.cell? ⟨w.heap.size+1,9,none⟩=some (.int .i64 0):=R1.c 9 (zD rfl)
 have f9:=R1.f 9 (zD rfl)
 have c10:W1.cell? ⟨w.heap.size+1,10,none⟩=some (.int .i64 0):=R1.c 10 (zD rfl)
 have f10:=R1.f 10 (zD rfl)
 have c11:W1.cell? ⟨w.heap.size+1,11,none⟩=some (.int .i64 0):=R1.c 11 (zD rfl)
 have f11:=R1.f 11 (zD rfl)
 have c12:W1.cell? ⟨w.heap.size+1,12,none⟩=some (.int .i64 0):=R1.c 12 (zD rfl)
 have f12:=R1.f 12 (zD rfl)
 go_wp2_with (with_reducible refine Ae ?_)
 have D:=(((((((((((((R1.put 0 (zD rfl) (.int .i64 0) [.int .i64 0,.int .i64 0,.int .i64 0,.int .i64 0,.int .i64 0,.int .i64 0,.int .i64 0,.int .i64 0,.int .i64 0,.int .i64 0,.int .i64 0,.int .i64 0,.int .i64 0] rfl).put 1 (zD rfl) (.int .i64 0) [.int .i64 0,.int .i64 0,.int .i64 0,.int .i64 0,.int .i64 0,.int .i64 0,.int .i64 0,.int .i64 0,.int .i64 0,.int .i64 0,.int .i64 0,.int .i64 0,.int .i64 0] rfl).put 2 (zD rfl) (.int .i64 0) [.int .i64 0,.int .i64 0,.int .i64 0,.int .i64 0,.int .i64 0,.int .i64 0,.int .i64 0,.int .i64 0,.int .i64 0,.int .i64 0,.int .i64 0,.int .i64 0,.int .i64 0] rfl).put 3 (zD rfl) (.int .i64 0) [.int .i64 0,.int .i64 0,.int .i64 0,.int .i64 0,.int .i64 0,.int .i64 0,.int .i64 0,.int .i64 0,.int .i64 0,.int .i64 0,.int .i64 0,.int .i64 0,.int .i64 0] rfl).put 4 (zD rfl) (.int .i64 0) [.int .i64 0,.int .i64 0,.int .i64 0,.int .i64 0,.int .i64 0,.int .i64 0,.int .i64 0,.int .i64 0,.int .i64 0,.int .i64 0,.int .i64 0,.int .i64 0,.int .i64 0] rfl).put 5 (zD rfl) (.int .i64 0) [.int .i64 0,.int .i64 0,.int .i64 0,.int .i64 0,.int .i64 0,.int .i64 0,.int .i64 0,.int .i64 0,.int .i64 0,.int .i64 0,.int .i64 0,.int .i64 0,.int .i64 0] rfl).put 6 (zD rfl) (.int .i64 0) [.int .i64 0,.int .i64 0,.int .i64 0,.int .i64 0,.int .i64 0,.int .i64 0,.int .i64 0,.int .i64 0,.int .i64 0,.int .i64 0,.int .i64 0,.int .i64 0,.int .i64 0] rfl).put 7 (zD rfl) (.int .i64 0) [.int .i64 0,.int .i64 0,.int .i64 0,.int .i64 0,.int .i64 0,.int .i64 0,.int .i64 0,.int .i64 0,.int .i64 0,.int .i64 0,.int .i64 0,.int .i64 0,.int .i64 0] rfl).put 8 (zD rfl) (.int .i64 0) [.int .i64 0,.int .i64 0,.int .i64 0,.int .i64 0,.int .i64 0,.int .i64 0,.int .i64 0,.int .i64 0,.int .i64 0,.int .i64 0,.int .i64 0,.int .i64 0,.int .i64 0] rfl).put 9 (zD rfl) (.int .i64 0) [.int .i64 0,.int .i64 0,.int .i64 0,.int .i64 0,.int .i64 0,.int .i64 0,.int .i64 0,.int .i64 0,.int .i64 0,.int .i64 0,.int .i64 0,.int .i64 0,.int .i64 0] rfl).put 10 (zD rfl) (.int .i64 0) [.int .i64 0,.int .i64 0,.int .i64 0,.int .i64 0,.int .i64 0,.int .i64 0,.int .i64 0,.int .i64 0,.int .i64 0,.int .i64 0,.int .i64 0,.int .i64 0,.int .i64 0] rfl).put 11 (zD rfl) (.int .i64 0) [.int .i64 0,.int .i64 0,.int .i64 0,.int .i64 0,.int .i64 0,.int .i64 0,.int .i64 0,.int .i64 0,.int .i64 0,.int .i64 0,.int .i64 0,.int .i64 0,.int .i64 0] rfl).put 12 (zD rfl) (.int .i64 0) [.int .i64 0,.int .i64 0,.int .i64 0,.int .i64 0,.int .i64 0,.int .i64 0,.int .i64 0,.int .i64 0,.int .i64 0,.int .i64 0,.int .i64 0,.int .i64 0,.int .i64 0] rfl)
 have d0:=D.c 0 (zD rfl)
 have d1:=D.c 1 (zD rfl)
 have d2:=D.c 2 (zD rfl)
 have d3:=D.c 3 (zD rfl)
 have d4:=D.c 4 (zD rfl)
 have d5:=D.c 5 (zD rfl)
 have d6:=D.c 6 (zD rfl)
 have d7:=D.c 7 (zD rfl)
 have d8:=D.c 8 (zD rfl)
 have d9:=D.c 9 (zD rfl)
 have d10:=D.c 10 (zD rfl)
 have d11:=D.c 11 (zD rfl)
 have d12:=D.c 12 (zD rfl)
 simp only[List.getElem_cons_zero,List.getElem_cons_succ]at d0 d1 d2 d3 d4 d5 d6 d7 d8 d9 d10 d11 d12
 exact⟨bodyPost_ret (v:=.tuple #[.agg #[.int .i64 0,.int .i64 0,.int .i64 0,.int .i64 0,.int .i64 0,.int .i64 0,.int .i64 0,.int .i64 0,.int .i64 0,.int .i64 0,.int .i64 0,.int .i64 0,.int .i64 0],.bool false]) (by simp[results_cell_tmp Tryz.results81,asAddr,go_sem,d0,d1,d2,d3,d4,d5,d6,d7,d8,d9,d10,d11,d12]) rfl ⟨rfl,(Al (Al (Al (Al (Al (Al (Al (Al (Al (Al (Al (Al (Al L1 _ _ (by omega) _) _ _ (by omega) _) _ _ (by omega) _) _ _ (by omega) _) _ _ (by omega) _) _ _ (by omega) _) _ _ (by omega) _) _ _ (by omega) _) _ _ (by omega) _) _ _ (by omega) _) _ _ (by omega) _) _ _ (by omega) _) _ _ (by omega) _)⟩⟩
theorem ZG(s:ByteArray)(w:World)(hs:s.size=26)(h:tlOk (tlE s)=true):
    Calls Tryz.prog 81 #[.agg #[.int .i64 32,.string s]] w fun e w'=>e=.returned (.tuple #[.agg #[.int .i64 (tickS s),.int .i64 (bt s 6:Nat),.int .i64 (bt s 7:Nat),.int .i64 (bt s 8:Nat),.int .i64 (bt s 9:Nat),.int .i64 (cnt s 10:Nat),.int .i64 (sg (cnt s 12)),.int .i64 (sg (cnt s 14)),.int .i64 (sg (cnt s 16)),.int .i64 (sg (cnt s 18)),.int .i64 (sg (cnt s 20)),.int .i64 (sg (cnt s 22)),.int .i64 (sg (cnt s 24))],.bool true])/\Below w.heap.size w w':=by
 have hm:∀W:World,Calls Tryz.prog 121 #[.agg #[.int .i64 (tickS s),.int .i64 (bt s 6:Nat),.int .i64 (bt s 7:Nat),.int .i64 (bt s 8:Nat),.int .i64 (bt s 9:Nat),.int .i64 (cnt s 10:Nat),.int .i64 (sg (cnt s 12)),.int .i64 (sg (cnt s 14)),.int .i64 (sg (cnt s 16)),.int .i64 (sg (cnt s 18)),.int .i64 (sg (cnt s 20)),.int .i64 (sg (cnt s 22)),.int .i64 (sg (cnt s 24))]] W fun e w'=>e=.returned (.bool (tlOk (tlE s)))/\Below W.heap.size W w':=EI (tlE s)
 rw[h]at hm
 clear h
 have hj:=fun W=>JN (s.extract 0 6) W (by rw[ByteArray.size_extract];omega)
 rw[I9]at hj
 have hp:=fun W=>Jl s 10 10 W rfl (by omega) (by omega)
 have hs0:=fun W=>AW s 12 12 W rfl (by omega) (by omega)
 have hs1:=fun W=>AW s 14 14 W rfl (by omega) (by omega)
 have hs2:=fun W=>AW s 16 16 W rfl (by omega) (by omega)
 have hs3:=fun W=>AW s 18 18 W rfl (by omega) (by omega)
 have hs4:=fun W=>AW s 20 20 W rfl (by omega) (by omega)
 have hs5:=fun W=>AW s 22 22 W rfl (by omega) (by omega)
 have hs6:=fun W=>AW s 24 24 W rfl (by omega) (by omega)
 have i6:=B9 (s:=s) (i:=6) (n:=6) (by omega) rfl
 have i7:=B9 (s:=s) (i:=7) (n:=7) (by omega) rfl
 have i8:=B9 (s:=s) (i:=8) (n:=8) (by omega) rfl
 have i9:=B9 (s:=s) (i:=9) (n:=9) (by omega) rfl
 have hsl:∀W:World,(Instr.slice 9 (.string s) none (some (.int .i64 6)) none).run Tryz.prog W=.ok (.string (s.extract 0 6)) W:=fun W=>by
  rw[run_slice_string_to_if W 9 s .i64 6 Tryz.underlying9,if_pos (by omega)]
  rfl
 generalize s.extract 0 6=y at *
 have l6:=CU s 6
 have l7:=CU s 7
 have l8:=CU s 8
 have l9:=CU s 9
 have l10:=Eo s 10
 generalize tickS s=x0 at *
 generalize bt s 6=y1 at *
 generalize bt s 7=y2 at *
 generalize bt s 8=y3 at *
 generalize bt s 9=y4 at *
 generalize cnt s 10=y5 at *
 generalize sg (cnt s 12)=x6 at *
 generalize sg (cnt s 14)=x7 at *
 generalize sg (cnt s 16)=x8 at *
 generalize sg (cnt s 18)=x9 at *
 generalize sg (cnt s 20)=x10 at *
 generalize sg (cnt s 22)=x11 at *
 generalize sg (cnt s 24)=x12 at *
 have u1:IntKind.i64.wrap (y1:Int)=y1:=by rw[IntKind.wrap_i64];omega
 have u2:IntKind.i64.wrap (y2:Int)=y2:=by rw[IntKind.wrap_i64];omega
 have u3:IntKind.i64.wrap (y3:Int)=y3:=by rw[IntKind.wrap_i64];omega
 have u4:IntKind.i64.wrap (y4:Int)=y4:=by rw[IntKind.wrap_i64];omega
 have u5:IntKind.i64.wrap (y5:Int)=y5:=by rw[IntKind.wrap_i64];omega
 clear l6
 generalize (y1:Int)=x1 at *
 clear l7
 generalize (y2:Int)=x2 at *
 clear l8
 generalize (y3:Int)=x3 at *
 clear l9
 generalize (y4:Int)=x4 at *
 clear l10
 generalize (y5:Int)=x5 at *
 go_enter Tryz.func81,Tryz.ntmps81
 go_upto_region 4 with fail
 go_cut [5]from 8 (fun p wx=>p=.pointer (some ⟨w.heap.size+1+1,0,none⟩)/\wx=(((w.alloc (.cells #[.int .i64 32,.string s] 77)).alloc (.cells #[.int .i64 0,.int .i64 0,.int .i64 0,.int .i64 0,.int .i64 0,.int .i64 0,.int .i64 0,.int .i64 0,.int .i64 0,.int .i64 0,.int .i64 0,.int .i64 0,.int .i64 0] 148)).alloc (.cells #[.int .i64 x0,.int .i64 x1,.int .i64 x2,.int .i64 x3,.int .i64 x4,.int .i64 x5,.int .i64 0,.int .i64 0,.int .i64 0,.int .i64 0,.int .i64 0,.int .i64 0,.int .i64 0] 148)).drew.drew)
 case first=>
  refine wp_region_held_drew (S:=fun _=>True) (by kernel_rfl) trivial (fun zH=>?_)
  refine zT 0 rfl (by kernel_rfl) (fun _ _ _=>id) rfl (fun _ _=>by go_simp<;>with_reducible rfl) zH ?_
  simp only[Act.put,zA,zB,zC]
  refine zT 1 rfl (by kernel_rfl) (fun _ _ _=>id) rfl (fun _ _=>by go_simp<;>with_reducible rfl) zH ?_
  simp only[Act.put,zA,zB,zC]
  refine zT 3 rfl (by kernel_rfl) (fun _ _ _=>id) rfl (fun _ _=>by go_simp<;>with_reducible rfl) zH ?_
  simp only[Act.put,zA,zB,zC]
  refine zT 4 rfl (by kernel_rfl) (fun _ _ _=>id) rfl (fun _ _=>by go_simp<;>with_reducible rfl) zH ?_
  simp only[Act.put,zA,zB,zC]
  refine zT 5 rfl (by kernel_rfl) (fun _ _ _=>id) rfl (fun _ _=>by go_simp<;>with_reducible rfl) zH ?_
  simp only[Act.put,zA,zB,zC]
  refine zT 6 rfl (by kernel_rfl) (fun _ _ _=>id) rfl (fun _ _=>by go_simp<;>with_reducible rfl) zH ?_
  simp only[Act.put,zA,zB,zC]
  refine zT 7 rfl (by kernel_rfl) (fun _ _ _=>id) rfl (fun _ _=>by go_simp<;>with_reducible rfl) zH ?_
  simp only[Act.put,zA,zB,zC]
  refine zT 8 rfl (by kernel_rfl) (fun _ _ _=>id) rfl (fun _ _=>by go_simp<;>with_reducible rfl) zH ?_
  simp only[Act.put,zA,zB,zC]
  refine zT 9 rfl (by kernel_rfl) (fun _ _ _=>id) rfl (fun _ _=>by go_simp<;>with_reducible rfl) zH ?_
  simp only[Act.put,zA,zB,zC]
  refine zT 10 rfl (by kernel_rfl) (fun _ _ _=>id) rfl (fun _ _=>by go_simp<;>with_reducible rfl) zH ?_
  simp only[Act.put,zA,zB,zC]
  refine zT 11 rfl (by kernel_rfl) (fun _ _ _=>id) rfl (fun _ _=>by go_simp<;>with_reducible rfl) zH ?_
  simp only[Act.put,zA,zB,zC]
  refine zT 12 rfl (by kernel_rfl) (fun _ _ _=>id) rfl (fun _ _=>by go_simp<;>with_reducible rfl) zH ?_
  simp only[Act.put,zA,zB,zC]
  refine zT 13 rfl (by kernel_rfl) (fun _ _ _=>id) rfl (fun _ _=>by go_simp<;>with_reducible rfl) zH ?_
  simp only[Act.put,zA,zB,zC]
  refine zT 14 rfl (by kernel_rfl) (fun _ _ _=>id) rfl (fun _ _=>by go_simp<;>with_reducible rfl) zH ?_
  simp only[Act.put,zA,zB,zC]
  refine zT 15 rfl (by kernel_rfl) (fun _ _ _=>id) rfl (fun _ _=>by go_simp<;>with_reducible rfl) zH ?_
  simp only[Act.put,zA,zB,zC]
  refine Ij (i0:=2) (i1:=19) (by kernel_rfl) rfl rfl (fun K hK=>?_) (fun K hK=>?_)
  ·go_simp
   refine(hj _).mono ?_
   rintro e X ⟨rfl,rfl⟩
   clear zH
   refine hK.out _ _ trivial (fun zH=>?_)
   clear hK K
   refine Ij (i0:=16) (i1:=19) (by kernel_rfl) rfl rfl (fun K hK=>?_) (fun K hK=>?_)
   ·go_simp
    refine(hp _).mono ?_
    rintro e X ⟨rfl,rfl⟩
    clear zH
    refine hK.out _ _ trivial (fun zH=>?_)
    clear hK K
    refine zT 17 rfl (by kernel_rfl) (fun _ _ _=>id) rfl (fun _ _=>by go_simp<;>with_reducible rfl) zH ?_
    simp only[Act.put,zA,zB,zC]
    refine zT 18 rfl (by kernel_rfl) (fun _ _ _=>id) rfl (fun _ _=>by go_simp<;>with_reducible rfl) zH ?_
    simp only[Act.put,zA,zB,zC]
    refine zK 19 (by kernel_rfl) rfl (fun K hK=>?_)
    go_simp
    clear zH
    refine hK.out _ _ trivial (fun zH=>?_)
    clear hK K
    refine zK 20 (by kernel_rfl) rfl (fun K hK=>?_)
    go_simp
    clear zH
    refine hK.out _ _ trivial (fun zH=>?_)
    clear hK K
    refine wpAnyH_done (by kernel_rfl) ?_ _
    clear zH
    go_wp2_with fail
    go_meet
    case rel=>exact⟨rfl,rfl⟩
   ·go_simp
    clear zH
    refine hK.out _ _ trivial (fun zH=>?_)
    clear hK K
    refine zK 16 (by kernel_rfl) rfl (fun K hK=>?_)
    go_simp
    refine(hp _).mono ?_
    rintro e X ⟨rfl,rfl⟩
    clear zH
    refine hK.out _ _ trivial (fun zH=>?_)
    clear hK K
    refine zT 17 rfl (by kernel_rfl) (fun _ _ _=>id) rfl (fun _ _=>by go_simp<;>with_reducible rfl) zH ?_
    simp only[Act.put,zA,zB,zC]
    refine zT 18 rfl (by kernel_rfl) (fun _ _ _=>id) rfl (fun _ _=>by go_simp<;>with_reducible rfl) zH ?_
    simp only[Act.put,zA,zB,zC]
    refine zK 20 (by kernel_rfl) rfl (fun K hK=>?_)
    go_simp
    clear zH
    refine hK.out _ _ trivial (fun zH=>?_)
    clear hK K
    refine wpAnyH_done (by kernel_rfl) ?_ _
    clear zH
    go_wp2_with fail
    go_meet
    case rel=>exact⟨rfl,rfl⟩
  ·go_simp
   clear zH
   refine hK.out _ _ trivial (fun zH=>?_)
   clear hK K
   refine zK 2 (by kernel_rfl) rfl (fun K hK=>?_)
   go_simp
   refine(hj _).mono ?_
   rintro e X ⟨rfl,rfl⟩
   clear zH
   refine hK.out _ _ trivial (fun zH=>?_)
   clear hK K
   refine zK 16 (by kernel_rfl) rfl (fun K hK=>?_)
   go_simp
   refine(hp _).mono ?_
   rintro e X ⟨rfl,rfl⟩
   clear zH
   refine hK.out _ _ trivial (fun zH=>?_)
   clear hK K
   refine zT 17 rfl (by kernel_rfl) (fun _ _ _=>id) rfl (fun _ _=>by go_simp<;>with_reducible rfl) zH ?_
   simp only[Act.put,zA,zB,zC]
   refine zT 18 rfl (by kernel_rfl) (fun _ _ _=>id) rfl (fun _ _=>by go_simp<;>with_reducible rfl) zH ?_
   simp only[Act.put,zA,zB,zC]
   refine zK 20 (by kernel_rfl) rfl (fun K hK=>?_)
   go_simp
   clear zH
   refine hK.out _ _ trivial (fun zH=>?_)
   clear hK K
   refine wpAnyH_done (by kernel_rfl) ?_ _
   clear zH
   go_wp2_with fail
   go_meet
   case rel=>exact⟨rfl,rfl⟩
 obtain⟨rfl,rfl⟩:=hcut
 clear hj hp hsl i6 i7 i8 i9
 go_wp2_with fail
 refine wp_loop_rounds 5 ?_
 rw[rounds_succ]
 go_wp2_with fail
 refine(hs0 _).mono ?_
 rintro e X ⟨rfl,rfl⟩
 go_wp2_with fail
 rw[rounds_succ]
 go_wp2_with fail
 refine(hs1 _).mono ?_
 rintro e X ⟨rfl,rfl⟩
 go_wp2_with fail
 rw[rounds_succ]
 go_wp2_with fail
 refine(hs2 _).mono ?_
 rintro e X ⟨rfl,rfl⟩
 go_wp2_with fail
 rw[rounds_succ]
 go_wp2_with fail
 refine(hs3 _).mono ?_
 rintro e X ⟨rfl,rfl⟩
 go_wp2_with fail
 rw[rounds_succ]
 go_wp2_with fail
 refine wp_loop_rounds 4 ?_
 rw[rounds_succ]
 go_wp2_with fail
 refine(hs4 _).mono ?_
 rintro e X ⟨rfl,rfl⟩
 go_wp2_with fail
 rw[rounds_succ]
 go_wp2_with fail
 refine(hs5 _).mono ?_
 rintro e X ⟨rfl,rfl⟩
 go_wp2_with fail
 rw[rounds_succ]
 go_wp2_with fail
 refine(hs6 _).mono ?_
 rintro e X ⟨rfl,rfl⟩
 go_wp2_with fail
 rw[rounds_succ]
 go_wp2_with fail
 refine(hm _).mono ?_
 rintro e W1 ⟨rfl,k1⟩
 have L1:=Au (Bf (Bf (Bf (Bf (Bf (Bf (Bf (Bf (Bf (Ai (Ai (Ai (Below.refl _ w) (.cells #[.int .i64 32,.string s] 77)) (.cells #[.int .i64 0,.int .i64 0,.int .i64 0,.int .i64 0,.int .i64 0,.int .i64 0,.int .i64 0,.int .i64 0,.int .i64 0,.int .i64 0,.int .i64 0,.int .i64 0,.int .i64 0] 148)) (.cells #[.int .i64 x0,.int .i64 x1,.int .i64 x2,.int .i64 x3,.int .i64 x4,.int .i64 x5,.int .i64 x6,.int .i64 x7,.int .i64 x8,.int .i64 x9,.int .i64 x10,.int .i64 x11,.int .i64 x12] 148))))))))))) k1
 have R1:=((((Am (w.alloc (.cells #[.int .i64 32,.string s] 77)) (w.heap.size+1) [.int .i64 0,.int .i64 0,.int .i64 0,.int .i64 0,.int .i64 0,.int .i64 0,.int .i64 0,.int .i64 0,.int .i64 0,.int .i64 0,.int .i64 0,.int .i64 0,.int .i64 0] 148 (by simp)).alloc (.cells #[.int .i64 x0,.int .i64 x1,.int .i64 x2,.int .i64 x3,.int .i64 x4,.int .i64 x5,.int .i64 x6,.int .i64 x7,.int .i64 x8,.int .i64 x9,.int .i64 x10,.int .i64 x11,.int .i64 x12] 148))).drew.drew.drew.drew.drew.drew.drew.drew.drew).below k1
 have O1:=((Am ((w.alloc (.cells #[.int .i64 32,.string s] 77)).alloc (.cells #[.int .i64 0,.int .i64 0,.int .i64 0,.int .i64 0,.int .i64 0,.int .i64 0,.int .i64 0,.int .i64 0,.int .i64 0,.int .i64 0,.int .i64 0,.int .i64 0,.int .i64 0] 148)) (w.heap.size+1+1) [.int .i64 x0,.int .i64 x1,.int .i64 x2,.int .i64 x3,.int .i64 x4,.int .i64 x5,.int .i64 x6,.int .i64 x7,.int .i64 x8,.int .i64 x9,.int .i64 x10,.int .i64 x11,.int .i64 x12] 148 (by simp)).drew.drew.drew.drew.drew.drew.drew.drew.drew).below k1
 clear k1
 have zr:=R1.lies
 have zo:=O1.lies
 have a0:W1.cell? ⟨w.heap.size+1+1,0,none⟩=some (.int .i64 x0):=O1.c 0 (zD rfl)
 have a1:W1.cell? ⟨w.heap.size+1+1,1,none⟩=some (.int .i64 x1):=O1.c 1 (zD rfl)
 have a2:W1.cell? ⟨w.heap.size+1+1,2,none⟩=some (.int .i64 x2):=O1.c 2 (zD rfl)
 have a3:W1.cell? ⟨w.heap.size+1+1,3,none⟩=some (.int .i64 x3):=O1.c 3 (zD rfl)
 have a4:W1.cell? ⟨w.heap.size+1+1,4,none⟩=some (.int .i64 x4):=O1.c 4 (zD rfl)
 have a5:W1.cell? ⟨w.heap.size+1+1,5,none⟩=some (.int .i64 x5):=O1.c 5 (zD rfl)
 have a6:W1.cell? ⟨w.heap.size+1+1,6,none⟩=some (.int .i64 x6):=O1.c 6 (zD rfl)
 have a7:W1.cell? ⟨w.heap.size+1+1,7,none⟩=some (.int .i64 x7):=O1.c 7 (zD rfl)
 have a8:W1.cell? ⟨w.heap.size+1+1,8,none⟩=some (.int .i64 x8):=O1.c 8 (zD rfl)
 have a9:W1.cell? ⟨w.heap.size+1+1,9,none⟩=some (.int .i64 x9):=O1.c 9 (zD rfl)
 have a10:W1.cell? ⟨w.heap.size+1+1,10,none⟩=some (.int .i64 x10):=O1.c 10 (zD rfl)
 have a11:W1.cell? ⟨w.heap.size+1+1,11,none⟩=some (.int .i64 x11):=O1.c 11 (zD rfl)
 have a12:W1.cell? ⟨w.heap.size+1+1,12,none⟩=some (.int .i64 x12):=O1.c 12 (zD rfl)
 have c0:W1.cell? ⟨w.heap.size+1,0,none⟩=some (.int .i64 0):=R1.c 0 (zD rfl)
 have f0:=R1.f 0 (zD rfl)
 have c1:W1.cell? ⟨w.heap.size+1,1,none⟩=some (.int .i64 0):=R1.c 1 (zD rfl)
 have f1:=R1.f 1 (zD rfl)
 have c2:W1.cell? ⟨w.heap.size+1,2,none⟩=some (.int .i64 0):=R1.c 2 (zD rfl)
 have f2:=R1.f 2 (zD rfl)
 have c3:W1.cell? ⟨w.heap.size+1,3,none⟩=some (.int .i64 0):=R1.c 3 (zD rfl)
 have f3:=R1.f 3 (zD rfl)
 have c4:W1.cell? ⟨w.heap.size+1,4,none⟩=some (.int .i64 0):=R1.c 4 (zD rfl)
 have f4:=R1.f 4 (zD rfl)
 have c5:W1.cell? ⟨w.heap.size+1,5,none⟩=some (.int .i64 0):=R1.c 5 (zD rfl)
 have f5:=R1.f 5 (zD rfl)
 have c6:W1.cell? ⟨w.heap.size+1,6,none⟩=some (.int .i64 0):=R1.c 6 (zD rfl)
 have f6:=R1.f 6 (zD rfl)
 have c7:W1.cell? ⟨w.heap.size+1,7,none⟩=some (.int .i64 0):=R1.c 7 (zD rfl)
 have f7:=R1.f 7 (zD rfl)
 have c8:W1.cell? ⟨w.heap.size+1,8,none⟩=some (.int .i64 0):=R1.c 8 (zD rfl)
 have f8:=R1.f 8 (zD rfl)
 have c9:W1.cell? ⟨w.heap.size+1,9,none⟩=some (.int .i64 0):=R1.c 9 (zD rfl)
 have f9:=R1.f 9 (zD rfl)
 have c10:W1.cell? ⟨w.heap.size+1,10,none⟩=some (.int .i64 0):=R1.c 10 (zD rfl)
 have f10:=R1.f 10 (zD rfl)
 have c11:W1.cell? ⟨w.heap.size+1,11,none⟩=some (.int .i64 0):=R1.c 11 (zD rfl)
 have f11:=R1.f 11 (zD rfl)
 have c12:W1.cell? ⟨w.heap.size+1,12,none⟩=some (.int .i64 0):=R1.c 12 (zD rfl)
 have f12:=R1.f 12 (zD rfl)
 go_wp2_with (with_reducible refine Ae ?_)
 have D:=(((((((((((((R1.put 0 (zD rfl) (.int .i64 x0) [.int .i64 x0,.int .i64 0,.int .i64 0,.int .i64 0,.int .i64 0,.int .i64 0,.int .i64 0,.int .i64 0,.int .i64 0,.int .i64 0,.int .i64 0,.int .i64 0,.int .i64 0] rfl).put 1 (zD rfl) (.int .i64 x1) [.int .i64 x0,.int .i64 x1,.int .i64 0,.int .i64 0,.int .i64 0,.int .i64 0,.int .i64 0,.int .i64 0,.int .i64 0,.int .i64 0,.int .i64 0,.int .i64 0,.int .i64 0] rfl).put 2 (zD rfl) (.int .i64 x2) [.int .i64 x0,.int .i64 x1,.int .i64 x2,.int .i64 0,.int .i64 0,.int .i64 0,.int .i64 0,.int .i64 0,.int .i64 0,.int .i64 0,.int .i64 0,.int .i64 0,.int .i64 0] rfl).put 3 (zD rfl) (.int .i64 x3) [.int .i64 x0,.int .i64 x1,.int .i64 x2,.int .i64 x3,.int .i64 0,.int .i64 0,.int .i64 0,.int .i64 0,.int .i64 0,.int .i64 0,.int .i64 0,.int .i64 0,.int .i64 0] rfl).put 4 (zD rfl) (.int .i64 x4) [.int .i64 x0,.int .i64 x1,.int .i64 x2,.int .i64 x3,.int .i64 x4,.int .i64 0,.int .i64 0,.int .i64 0,.int .i64 0,.int .i64 0,.int .i64 0,.int .i64 0,.int .i64 0] rfl).put 5 (zD rfl) (.int .i64 x5) [.int .i64 x0,.int .i64 x1,.int .i64 x2,.int .i64 x3,.int .i64 x4,.int .i64 x5,.int .i64 0,.int .i64 0,.int .i64 0,.int .i64 0,.int .i64 0,.int .i64 0,.int .i64 0] rfl).put 6 (zD rfl) (.int .i64 x6) [.int .i64 x0,.int .i64 x1,.int .i64 x2,.int .i64 x3,.int .i64 x4,.int .i64 x5,.int .i64 x6,.int .i64 0,.int .i64 0,.int .i64 0,.int .i64 0,.int .i64 0,.int .i64 0] rfl).put 7 (zD rfl) (.int .i64 x7) [.int .i64 x0,.int .i64 x1,.int .i64 x2,.int .i64 x3,.int .i64 x4,.int .i64 x5,.int .i64 x6,.int .i64 x7,.int .i64 0,.int .i64 0,.int .i64 0,.int .i64 0,.int .i64 0] rfl).put 8 (zD rfl) (.int .i64 x8) [.int .i64 x0,.int .i64 x1,.int .i64 x2,.int .i64 x3,.int .i64 x4,.int .i64 x5,.int .i64 x6,.int .i64 x7,.int .i64 x8,.int .i64 0,.int .i64 0,.int .i64 0,.int .i64 0] rfl).put 9 (zD rfl) (.int .i64 x9) [.int .i64 x0,.int .i64 x1,.int .i64 x2,.int .i64 x3,.int .i64 x4,.int .i64 x5,.int .i64 x6,.int .i64 x7,.int .i64 x8,.int .i64 x9,.int .i64 0,.int .i64 0,.int .i64 0] rfl).put 10 (zD rfl) (.int .i64 x10) [.int .i64 x0,.int .i64 x1,.int .i64 x2,.int .i64 x3,.int .i64 x4,.int .i64 x5,.int .i64 x6,.int .i64 x7,.int .i64 x8,.int .i64 x9,.int .i64 x10,.int .i64 0,.int .i64 0] rfl).put 11 (zD rfl) (.int .i64 x11) [.int .i64 x0,.int .i64 x1,.int .i64 x2,.int .i64 x3,.int .i64 x4,.int .i64 x5,.int .i64 x6,.int .i64 x7,.int .i64 x8,.int .i64 x9,.int .i64 x10,.int .i64 x11,.int .i64 0] rfl).put 12 (zD rfl) (.int .i64 x12) [.int .i64 x0,.int .i64 x1,.int .i64 x2,.int .i64 x3,.int .i64 x4,.int .i64 x5,.int .i64 x6,.int .i64 x7,.int .i64 x8,.int .i64 x9,.int .i64 x10,.int .i64 x11,.int .i64 x12] rfl)
 have d0:=D.c 0 (zD rfl)
 have d1:=D.c 1 (zD rfl)
 have d2:=D.c 2 (zD rfl)
 have d3:=D.c 3 (zD rfl)
 have d4:=D.c 4 (zD rfl)
 have d5:=D.c 5 (zD rfl)
 have d6:=D.c 6 (zD rfl)
 have d7:=D.c 7 (zD rfl)
 have d8:=D.c 8 (zD rfl)
 have d9:=D.c 9 (zD rfl)
 have d10:=D.c 10 (zD rfl)
 have d11:=D.c 11 (zD rfl)
 have d12:=D.c 12 (zD rfl)
 simp only[List.getElem_cons_zero,List.getElem_cons_succ]at d0 d1 d2 d3 d4 d5 d6 d7 d8 d9 d10 d11 d12
 exact⟨bodyPost_ret (v:=.tuple #[.agg #[.int .i64 x0,.int .i64 x1,.int .i64 x2,.int .i64 x3,.int .i64 x4,.int .i64 x5,.int .i64 x6,.int .i64 x7,.int .i64 x8,.int .i64 x9,.int .i64 x10,.int .i64 x11,.int .i64 x12],.bool true]) (by simp[results_cell_tmp Tryz.results81,asAddr,go_sem,d0,d1,d2,d3,d4,d5,d6,d7,d8,d9,d10,d11,d12]) rfl ⟨rfl,(Al (Al (Al (Al (Al (Al (Al (Al (Al (Al (Al (Al (Al L1 _ _ (by omega) _) _ _ (by omega) _) _ _ (by omega) _) _ _ (by omega) _) _ _ (by omega) _) _ _ (by omega) _) _ _ (by omega) _) _ _ (by omega) _) _ _ (by omega) _) _ _ (by omega) _) _ _ (by omega) _) _ _ (by omega) _) _ _ (by omega) _)⟩⟩
theorem ZH(k:Int)(s:ByteArray)(w:World):
    Calls Tryz.prog 81 #[.agg #[.int .i64 k,.string s]] w fun e w'=>e=.returned (.tuple #[.agg #[.int .i64 (tlR k s).1.t,.int .i64 (tlR k s).1.m,.int .i64 (tlR k s).1.fa,.int .i64 (tlR k s).1.ak,.int .i64 (tlR k s).1.er,.int .i64 (tlR k s).1.rj,.int .i64 (tlR k s).1.q0,.int .i64 (tlR k s).1.q1,.int .i64 (tlR k s).1.q2,.int .i64 (tlR k s).1.q3,.int .i64 (tlR k s).1.d0,.int .i64 (tlR k s).1.d1,.int .i64 (tlR k s).1.d2],.bool (tlR k s).2])/\Below w.heap.size w w':=by
 unfold tlR
 by_cases hk:k=32
 ·subst hk
  by_cases hs:s.size=26
  ·cases h:tlOk (tlE s)
   ·rw[if_neg (by simp)]
    exact ZF s w hs h
   ·rw[if_pos ⟨rfl,hs,rfl⟩]
    exact ZG s w hs h
  ·rw[if_neg (by simp[hs])]
   exact Vb s w hs
 ·rw[if_neg (by simp[hk])]
  exact Va k s w hk
end Go.Proofs.YtgmpfeaanjnhaaaGreatDoor
namespace Go.Proofs.YtgmpfeaanjnhaaaGreatDoor
open Go.RowKit
def tellF(T:Tl):Nat->Int:=fun i=>[T.m,T.fa,T.ak,T.er,T.rj,T.q0,T.q1,T.q2,T.q3,T.d0,T.d1,T.d2].getD i 0
theorem Ru{T:Tl}(h:tlOk T=true):∀i,-9223372036854775808<=tellF T i/\tellF T i<=9223372036854775807:=by
 unfold tlOk at h
 simp only[Bool.and_eq_true,inR,decide_eq_true_eq]at h
 obtain⟨⟨⟨⟨⟨⟨⟨⟨⟨⟨⟨⟨_,h1⟩,h2⟩,h3⟩,h4⟩,h5⟩,h6⟩,h7⟩,h8⟩,h9⟩,h10⟩,h11⟩,h12⟩:=h
 intro i
 unfold tellF
 match i with
 |0=>show _<=T.m/\T.m<=_;omega
 |1=>show _<=T.fa/\T.fa<=_;omega
 |2=>show _<=T.ak/\T.ak<=_;omega
 |3=>show _<=T.er/\T.er<=_;omega
 |4=>show _<=T.rj/\T.rj<=_;omega
 |5=>show _<=T.q0/\T.q0<=_;omega
 |6=>show _<=T.q1/\T.q1<=_;omega
 |7=>show _<=T.q2/\T.q2<=_;omega
 |8=>show _<=T.q3/\T.q3<=_;omega
 |9=>show _<=T.d0/\T.d0<=_;omega
 |10=>show _<=T.d1/\T.d1<=_;omega
 |11=>show _<=T.d2/\T.d2<=_;omega
 |_+12=>show(_:Int)<=0/\(0:Int)<=_;omega
def Aof:ByteArray:=⟨#[110,111,110,101]⟩
def toldT(s:ByteArray):ByteArray:=if (tlR (openS s).1 (openS s).2.1).2=true then⟨(lineW 12 (tellF (tlR (openS s).1 (openS s).2.1).1)).toArray⟩else Aof
theorem Amh(T:Tl)(w U:World)(t:TypeId)(g:Nat)(hg:g=U.heap.size)(hw:SW w)(hb:Below w.heap.size w U)(hr:tlOk T=true):
    Calls Tryz.prog 53 #[.slice (some ⟨g,0,none⟩) 12 12] (U.alloc (.cells #[.int .i64 T.m,.int .i64 T.fa,.int .i64 T.ak,.int .i64 T.er,.int .i64 T.rj,.int .i64 T.q0,.int .i64 T.q1,.int .i64 T.q2,.int .i64 T.q3,.int .i64 T.d0,.int .i64 T.d1,.int .i64 T.d2] t)) fun x w'=>x=.returned (.string ⟨(lineW 12 (tellF T)).toArray⟩)/\Below w.heap.size w w':=by
 subst hg
 have hB:Below w.heap.size w (U.alloc (.cells (row 12 (tellF T)).toArray t)):=hb.alloc hb.size _
 refine(Rs U.heap.size 12 (tellF T) (U.alloc (.cells (row 12 (tellF T)).toArray t)) (hw.below hB) (Am U _ _ _ rfl) (by decide) (by decide) (Ru hr)).mono ?_
 rintro x w' ⟨hx,hk⟩
 exact⟨hx,hB.trans (hk.mono hB.size)⟩
set_option maxHeartbeats 1000000 in
set_option maxRecDepth 100000 in
theorem Ag4(s:ByteArray)(w:World)(hw:SW w):
    Calls Tryz.prog 52 #[.string s] w fun e w'=>e=.returned (.string (toldT s))/\Below w.heap.size w w':=by
 have ho:=fun W=>Acr s W
 unfold toldT
 generalize openS s=x at ho ⊢
 obtain⟨k,d,o⟩:=x
 dsimp only at ho ⊢
 have hr:=fun W=>ZH k d W
 have hT:(tlR k d).2=true->tlOk (tlR k d).1=true:=by
  unfold tlR
  split
  ·rename_i h
   intro _
   exact h.2.2
  ·intro h
   cases h
 generalize tlR k d=y at hr hT ⊢
 obtain⟨T,b⟩:=y
 dsimp only at hr hT ⊢
 cases b with
 |false=>
  rw[if_neg nofun]
  clear hT hw
  obtain⟨t,m,fa,ak,er,rj,q0,q1,q2,q3,d0,d1,d2⟩:=T
  dsimp only at hr
  unfold Aof
  go_enter Tryz.func52,Tryz.ntmps52
  go_wp2_with (first |(go_at_call 80;refine(ho _).mono ?_;rintro x w1 ⟨rfl,hb1⟩)|(go_at_call 81;refine(hr _).mono ?_;rintro x w2 ⟨rfl,hb2⟩))
  go_ret
  exact⟨rfl,Ai (Au (Ai hb1 _) hb2) _⟩
 |true=>
  rw[if_pos rfl]
  have hl:=fun U t g hg hb=>Amh T w U t g hg hw hb (hT rfl)
  generalize (⟨(lineW 12 (tellF T)).toArray⟩:ByteArray)=q at hl ⊢
  clear hT hw
  obtain⟨t,m,fa,ak,er,rj,q0,q1,q2,q3,d0,d1,d2⟩:=T
  dsimp only at hr hl
  go_enter Tryz.func52,Tryz.ntmps52
  go_wp2_with (first |(go_at_call 80;refine(ho _).mono ?_;rintro x w1 ⟨rfl,hb1⟩)|(go_at_call 81;refine(hr _).mono ?_;rintro x w2 ⟨rfl,hb2⟩)|(go_at_call 53;refine(hl _ _ _ (by simp) (Ai (Au (Ai hb1 _) hb2) _)).mono ?_;rintro x w3 ⟨rfl,hb3⟩))
  go_ret
  exact⟨rfl,hb3⟩
structure Vd(q:Pl):Prop where
 c:Cj q.calm
 g:Cj q.good
 i:Cj q.miss
 l:Cj q.lost
 m0:0<=q.mode
 m3:q.mode<=3
 f0:0<=q.faults
 f9:q.faults<=15
theorem DU:Cj 0:=⟨by decide,by decide⟩
theorem Asa:∀n:Fin 16,∀x∈([1,2,4,8]:List Int),0<=bits .or .i64 (n.val:Int) x/\bits .or .i64 (n.val:Int) x<=15:=by decide+kernel
theorem Awb{f x:Int}(h0:0<=f)(h1:f<=15)(hx:x∈([1,2,4,8]:List Int)):0<=bits .or .i64 f x/\bits .or .i64 f x<=15:=by
 obtain⟨n,rfl⟩:∃n:Nat,f=n:=⟨f.toNat,by omega⟩
 exact Asa ⟨n,by omega⟩ x hx
theorem Rv{n:Int}(b:Bool):Cj (Hv n b):=by
 unfold Hv
 cases b
 ·exact DU
 ·simp only[if_true]
  split
  ·exact⟨by decide,by decide⟩
  ·rw[IntKind.wrap_i64]
   exact⟨by omega,by omega⟩
theorem Vd.go{q:Pl}(h:Vd q)(k:Int)(h0:0<=k)(h3:k<=3):Vd (goS k q):=⟨DU,DU,DU,DU,h0,h3,h.f0,h.f9⟩
theorem Vd.fail{q:Pl}(h:Vd q)(x:Int)(hx:x∈([1,2,4,8]:List Int)):Vd (EH x q):=by
 have u:=Awb h.f0 h.f9 hx
 exact⟨DU,DU,DU,DU,show(0:Int)<=1 by decide,show(1:Int)<=3 by decide,u.1,u.2⟩
theorem Vd.step{q:Pl}(h:Vd q)(s:Sn):Vd (Wm q s):=by
 unfold Wm Ae6
 split
 ·exact h.go 3 (by decide) (by decide)
 split
 ·unfold Q7;split
  ·exact⟨DU,DU,DU,DU,Int.le_refl 0,show(0:Int)<=3 by decide,Int.le_refl 0,show(0:Int)<=15 by decide⟩
  ·exact h
 split
 ·unfold Ae5;split
  ·exact h.go 1 (by decide) (by decide)
  ·exact⟨Rv _,h.g,h.i,h.l,h.m0,h.m3,h.f0,h.f9⟩
 split
 ·cases s.gap
  ·simp only[cond_false]
   unfold Q8
   cases (s.gyro&& !s.slow)
   ·simp only[cond_false]
    split
    ·exact h.go 2 (by decide) (by decide)
    ·exact⟨h.c,Rv _,h.i,h.l,h.m0,h.m3,h.f0,h.f9⟩
   ·exact h.go 0 (by decide) (by decide)
  ·exact h.fail 1 (by decide)
 split
 ·cases s.gap
  ·simp only[cond_false]
   unfold MC
   cases s.bad
   ·simp only[cond_false]
    split
    ·exact h.fail 2 (by decide)
    cases (s.pair&&s.lit)
    ·exact⟨h.c,h.g,h.i,Rv _,h.m0,h.m3,h.f0,h.f9⟩
    ·simp only[cond_true]
     split
     ·exact h.fail 8 (by decide)
     ·exact⟨h.c,h.g,Rv _,Rv _,h.m0,h.m3,h.f0,h.f9⟩
   ·exact h.fail 4 (by decide)
  ·exact h.fail 1 (by decide)
 ·exact h.go 3 (by decide) (by decide)
abbrev cPlan(c:Cra):Tup 6:=c.2.2.2.1
abbrev Aog(c:Cra):Dri:=c.2.2.2.2.2.2.1
abbrev cGues(c:Cra):Tup 43:=c.2.2.2.2.2.2.2.1
abbrev GY(c:Cra):Tup 3:=c.2.2.2.2.2.2.2.2
structure AkI(a:Tup 3):Prop where
 a0:0<=a.1
 a1:a.1<=255
 e0:0<=a.2.1
 e1:a.2.1<=255
 r0:0<=a.2.2.1
 r1:a.2.2.1<=65535
theorem Ag5{n:Int}(h0:0<=n)(h1:n<=65535):0<=SD n/\SD n<=65535:=by
 unfold SD
 split
 ·exact⟨by decide,by decide⟩
 ·rw[IntKind.wrap_i64]
  constructor<;>omega
theorem Asb(k:Int)(s:ByteArray):0<=(Ck k s).1.1/\(Ck k s).1.1<=255/\0<=(Ck k s).2/\(Ck k s).2<=255:=by
 have hb:(0:Int)<=(bt s 0:Nat)/\((bt s 0:Nat):Int)<=255:=by
  have:=CU s 0
  omega
 unfold Ck
 split
 ·exact⟨by decide,by decide,by decide,by decide⟩
 split
 ·exact⟨hb.1,hb.2,by dsimp only;decide,by dsimp only;decide⟩
 split
 ·exact⟨hb.1,hb.2,by dsimp only;decide,by dsimp only;decide⟩
 split
 ·exact⟨hb.1,hb.2,by dsimp only;decide,by dsimp only;decide⟩
 split
 ·exact⟨hb.1,hb.2,by dsimp only;decide,by dsimp only;decide⟩
 split
 ·exact⟨hb.1,hb.2,by dsimp only;decide,by dsimp only;decide⟩
 ·exact⟨hb.1,hb.2,by dsimp only;decide,by dsimp only;decide⟩
def Asd(p:Tup 6):Tup 6:=(p.1,p.2.1,p.2.2.1,p.2.2.2.1,p.2.2.2.2.1,0,())
structure Ic(c0:Cra)(l:ByteArray)(c:Cra):Prop where
 on:c.1=c0.1
 tick:c.2.1=c0.2.1
 left:c.2.2.1=l
 plan:cPlan c=cPlan c0∨cPlan c=Asd (cPlan c0)
 dri:Aog c=Aog c0
 gue:cGues c=cGues c0
 ak:AkI (GY c)
theorem Ic.rej{c0 c:Cra}{l:ByteArray}(h:Ic c0 l c):Ic c0 l (rejC c):=
 ⟨h.on,h.tick,h.left,h.plan,h.dri,h.gue,⟨h.ak.a0,h.ak.a1,h.ak.e0,h.ak.e1,(Ag5 h.ak.r0 h.ak.r1).1,(Ag5 h.ak.r0 h.ak.r1).2⟩⟩
theorem Ic.ack{c0 c:Cra}{l:ByteArray}(h:Ic c0 l c){q e:Int}(q0:0<=q)(q1:q<=255)(e0:0<=e)(e1:e<=255):Ic c0 l (Qr c q e):=
 ⟨h.on,h.tick,h.left,h.plan,h.dri,h.gue,⟨q0,q1,e0,e1,h.ak.r0,h.ak.r1⟩⟩
theorem Ic.orb{c0 c:Cra}{l:ByteArray}(h:Ic c0 l c)(o:Tup 7):Ic c0 l (At9 c o):=⟨h.on,h.tick,h.left,h.plan,h.dri,h.gue,h.ak⟩
theorem Ic.clr{c0 c:Cra}{l:ByteArray}(h:Ic c0 l c):Ic c0 l (Aua c):=by
 refine⟨h.on,h.tick,h.left,.inr ?_,h.dri,h.gue,⟨h.ak.a0,h.ak.a1,h.ak.e0,h.ak.e1,Int.le_refl 0,show(0:Int)<=65535 by decide⟩⟩
 show Asd (cPlan c)=_
 rcases h.plan with e |e<;>rw[e]
 rfl
def Mb(x:Hea):Prop:=x.2.2.2=0∨x.2.2.2=1∨x.2.2.2=2
section
variable {F:Fs}
theorem Ic.sen{c0 c:Cra}{l:ByteArray}(h:Ic c0 l c)(x:Hea)(f:Fra)(t:Int)(ho:Mb x):Ic c0 l (senW F c x f t).1/\Mb (senW F c x f t).2:=by
 unfold senW
 split
 ·exact⟨h.rej,ho⟩
 split
 ·exact⟨h.rej,ho⟩
 split
 ·exact⟨h,ho⟩
 split
 ·exact⟨h,ho⟩
 split
 ·exact⟨h,ho⟩
 ·exact⟨h,ho⟩
theorem Ic.ord{c0 c:Cra}{l:ByteArray}(h:Ic c0 l c)(x:Hea)(f:Fra)(ho:Mb x):Ic c0 l (ordC c x (oreadT f)).1/\Mb (ordC c x (oreadT f)).2:=by
 obtain⟨q0,q1,e0,e1⟩:=Asb f.1 f.2
 have ha:Ic c0 l (Qr c (oreadT f).1.1 (oreadT f).2):=h.ack q0 q1 e0 e1
 generalize oreadT f=o at ha ⊢
 unfold ordC
 split
 ·exact⟨ha.rej,ho⟩
 split
 ·rename_i e
  exact⟨ha,.inr (.inl (of_decide_eq_true e))⟩
 split
 ·rename_i e
  exact⟨ha,.inr (.inr (of_decide_eq_true e))⟩
 split
 ·exact⟨ha.orb _,ho⟩
 split
 ·exact⟨ha.clr,ho⟩
 ·exact⟨ha,ho⟩
theorem Ic.hear(hF:LY F){c0:Cra}{l:ByteArray}(t:Int)(s:Cra×Hea)(f:Fra)(h:Ic c0 l s.1/\Mb s.2):Ic c0 l (EZ F t s f).1/\Mb (EZ F t s f).2:=by
 unfold EZ
 split
 ·exact h.1.sen s.2 f t h.2
 split
 ·exact h.1.sen s.2 f t h.2
 split
 ·exact h.1.sen s.2 f t h.2
 split
 ·rw[hF.oread]
  exact h.1.ord s.2 f h.2
 ·exact⟨h.1.rej,h.2⟩
end
theorem Ic.all{F:Fs}(hF:LY F){c0:Cra}{l:ByteArray}(t:Int):∀(fs:List Fra) (s:Cra×Hea),Ic c0 l s.1/\Mb s.2->Ic c0 l (fs.foldl (EZ F t) s).1/\Mb (fs.foldl (EZ F t) s).2
 |[],_,h=>h
 |f::fs,s,h=>Ic.all hF t fs (EZ F t s f) (Ic.hear hF t s f h)
theorem Rw{F:Fs}(hF:LY F)(c:Cra)(ha:AkI (GY c))(t:Int)(b:ByteArray):Ic c (restOf (c.2.2.1++b).data.toList) (takeW F c t b).1/\Mb (takeW F c t b).2:=by
 unfold takeW
 refine Ic.all hF t _ _ ⟨?_,.inl rfl⟩
 have h:Ic c (restOf (c.2.2.1++b).data.toList) (Q6 c (restOf (c.2.2.1++b).data.toList)):=⟨rfl,rfl,rfl,.inl rfl,rfl,rfl,ha⟩
 unfold Ak1
 split
 ·exact h.rej
 ·exact h
theorem HU(F:Fs)(s:See)(g:Tup 43)(b pass:Bool):(Oq F s g b pass).2.1=s.1/\(Oq F s g b pass).2.2.2.2.2.2.2.2=s.2.2.2.2.2.2.2:=by
 unfold Oq
 split
 ·exact⟨rfl,rfl⟩
 ·exact⟨rfl,rfl⟩
theorem Mc(F:Fs)(s:See)(x:Hea)(y:Sky)(r:Tup 43×Bool):(Qp F s x y r).2.1=s.1/\(Qp F s x y r).2.2.2.2.2.2.2.2=s.2.2.2.2.2.2.2:=by
 unfold Qp
 split
 ·split
  ·exact HU ..
  ·exact HU ..
 ·exact HU ..
theorem Ve(F:Fs)(g:Tup 43)(s:See)(ms:Int)(x:Hea)(y:Sky):(Jc F g s ms x y).2.1=s.1/\(Jc F g s ms x y).2.2.2.2.2.2.2.2=s.2.2.2.2.2.2.2:=by
 unfold Jc
 split
 ·exact Mc ..
 ·exact Mc ..
theorem Vf(F:Fs)(c:Cra)(t:Int)(x:Hea)(y:Sky):(FK F c t x y).1= !EU c t/\(FK F c t x y).2.2.2.2.2.2.2=x.2.2.2:=by
 unfold FK
 split
 ·split
  ·exact⟨rfl,rfl⟩
  ·exact⟨rfl,rfl⟩
 ·split
  ·exact⟨rfl,rfl⟩
  ·exact⟨rfl,rfl⟩
theorem Ase(F:Fs)(c:Cra)(x:Hea)(t:Int):∃g s,goW F c x t=QP F (setGue c g) s x (skyW F c t) t/\s.1= !EU c t/\s.2.2.2.2.2.2.2=x.2.2.2:=by
 have hd:=Vf F c t x (skyW F c t)
 unfold goW
 split
 ·split
  ·have hf:=Ve F c.2.2.2.2.2.2.2.1 (FK F c t x (skyW F c t)) (IntKind.i64.wrap (t-c.2.1)) x (skyW F c t)
   exact⟨_,_,rfl,hf.1.trans hd.1,hf.2.trans hd.2⟩
  ·exact⟨cGues c,_,rfl,hd.1,hd.2⟩
 ·exact⟨cGues c,_,rfl,hd.1,hd.2⟩
theorem Ami(F:Fs)(p a b:Tup 6):(Qo F p a b).1=p∨(Qo F p a b).1=(1,0,0,0,0,Ajr p.2.2.2.2.2.1,()):=by
 unfold Qo
 split
 ·exact .inr rfl
 ·exact .inl rfl
theorem Xf{F:Fs}(hF:LY F)(c:Cra)(s:See)(x:Hea)(y:Sky):
    (planW F c s x y).1=Gh (cPlan c,s)∨((Gh (cPlan c,s)).1=2/\(cPlan c).1≠2/\(planW F c s x y).1=(1,0,0,0,0,Ajr (Gh (cPlan c,s)).2.2.2.2.2.1,())):=by
 unfold planW
 rw[hF.next]
 split
 ·exact .inl rfl
 rename_i h2
 split
 ·exact .inl rfl
 rename_i h3
 rcases Ami F (Gh (cPlan c,s)) y.2.2 (Iy x)with e |e
 ·exact .inl e
 ·refine .inr ⟨?_,?_,e⟩
  ·simpa using h2
  ·simpa using h3
theorem Amj{F:Fs}(hF:LY F){c:Cra}(h:Vd (Rn (cPlan c)))(s:See)(x:Hea)(y:Sky):Vd (Rn (planW F c s x y).1):=by
 have hn:Vd (Rn (Gh (cPlan c,s))):=h.step (Ar2 s)
 rcases Xf hF c s x y with e |⟨_,_,e⟩
 ·rw[e]
  exact hn
 ·rw[e]
  exact hn.fail 4 (by decide)
theorem HV(r:Int×Bool):inR (Oi r).1 (-32768) 32767=true:=by
 unfold Oi
 split
 ·assumption
 ·rfl
theorem Asf(q:Int×Int×Int×Int)(m:V3):inR (Z9 q m).1.1 (-32768) 32767=true/\inR (Z9 q m).1.2.1 (-32768) 32767=true/\inR (Z9 q m).1.2.2.1 (-32768) 32767=true/\inR (Z9 q m).1.2.2.2 (-32768) 32767=true/\inR (Z9 q m).2.1 (-32768) 32767=true/\inR (Z9 q m).2.2.1 (-32768) 32767=true/\inR (Z9 q m).2.2.2 (-32768) 32767=true:=by
 unfold Z9
 dsimp only
 split
 ·exact⟨rfl,rfl,rfl,rfl,rfl,rfl,rfl⟩
 ·exact⟨HV _,HV _,HV _,HV _,HV _,HV _,HV _⟩
structure Md(c:Cra):Prop where
 t:cRight c.2.1=true
 p:Vd (Rn (cPlan c))
 off:c.1=false->(cPlan c).1=0
 ak:AkI (GY c)
theorem Md.zero:Md zeroCra:=⟨rfl,⟨DU,DU,DU,DU,Int.le_refl 0,show(0:Int)<=3 by decide,Int.le_refl 0,show(0:Int)<=15 by decide⟩,fun _=>rfl,⟨Int.le_refl 0,show(0:Int)<=255 by decide,Int.le_refl 0,show(0:Int)<=255 by decide,Int.le_refl 0,show(0:Int)<=65535 by decide⟩⟩
def Me(F:Fs)(c:Cra):Tel:=Apv c (Kk (q4T (cGues c),Iz F c))
theorem Asg(F:Fs){c:Cra}(h:Md c):tlOk (MD (Me F c))=true:=by
 obtain⟨h1,h2,h3,h4,h5,h6,h7⟩:=Asf ((q4T (cGues c)).1,(q4T (cGues c)).2.1,(q4T (cGues c)).2.2.1,(q4T (cGues c)).2.2.2.1) ((Iz F c).1,(Iz F c).2.1,(Iz F c).2.2.1)
 have a:=h.t
 have b:inR (cPlan c).1 0 3=true:=Gv.2 ⟨h.p.m0,h.p.m3⟩
 have d:inR (cPlan c).2.2.2.2.2.1 0 15=true:=Gv.2 ⟨h.p.f0,h.p.f9⟩
 have e:inR (GY c).1 0 255=true:=Gv.2 ⟨h.ak.a0,h.ak.a1⟩
 have f:inR (GY c).2.1 0 255=true:=Gv.2 ⟨h.ak.e0,h.ak.e1⟩
 have g:inR (GY c).2.2.1 0 65535=true:=Gv.2 ⟨h.ak.r0,h.ak.r1⟩
 show(cRight c.2.1&&inR (cPlan c).1 0 3&&inR (cPlan c).2.2.2.2.2.1 0 15&&inR (GY c).1 0 255&&inR (GY c).2.1 0 255&&inR (GY c).2.2.1 0 65535&&_&&_&&_&&_&&_&&_&&_)=true
 rw[a,b,d,e,f,g]
 exact(congrArg (fun z=>z&&_&&_&&_&&_&&_&&_) h1).trans ((congrArg (fun z=>z&&_&&_&&_&&_&&_) h2).trans ((congrArg (fun z=>z&&_&&_&&_&&_) h3).trans ((congrArg (fun z=>z&&_&&_&&_) h4).trans ((congrArg (fun z=>z&&_&&_) h5).trans ((congrArg (fun z=>z&&_) h6).trans h7)))))
def Ash(T:Tl):List UInt8:=(GQ 32 (strOf (tlL T)).data.toList).drop 1
def Pj(T:Tl):ByteArray:=⟨⟨165::Ash T⟩⟩
theorem Vg(T:Tl):(strOf (tlL T)).size=26:=rfl
theorem Amk{F:Fs}(hF:LY F){c:Cra}(h:Md c):Nb F c=Pj (MD (Me F c)):=by
 have ok:=Asg F h
 unfold Nb
 rw[hF.write,hF.counts,hF.wrap]
 show(if (!(Hy (Me F c)).2)=true then noBytes else(FG (Hy (Me F c)).1).1)=_
 have e2:(Hy (Me F c)).2=true:=ok
 have e1:(Hy (Me F c)).1=(32,strOf (tlL (MD (Me F c)))):=by
  show tlW (MD (Me F c))=_
  unfold tlW
  rw[if_pos ok]
 rw[e2,e1]
 show(FG (32,strOf (tlL (MD (Me F c))))).1=_
 unfold FG
 rw[if_pos ⟨by dsimp only;decide,by dsimp only;decide,by dsimp only;rw[Vg];decide⟩]
 rfl
structure Awc(F:Fs)(c:Cra)(t:Int)(b:ByteArray)(d:Cra):Prop where
 right:cRight t=true
 late:c.1=true->c.2.1<t
 inv:Md d
 tick:d.2.1=t
 on:d.1=true
 left:d.2.2.1=restOf (c.2.2.1++b).data.toList
 plan:∃p s,(p=cPlan c∨p=Asd (cPlan c))/\(s.1= !EU c t)/\s.2.2.2.2.2.2.2=(takeW F c t b).2.2.2.2/\Mb (takeW F c t b).2/\(cPlan d=Gh (p,s)∨((Gh (p,s)).1=2/\p.1≠2/\cPlan d=(1,0,0,0,0,Ajr (Gh (p,s)).2.2.2.2.2.1,())))
theorem Vh{c d:Cra}(h1:d.1=c.1)(h2:d.2.1=c.2.1)(t:Int):EU d t=EU c t:=by
 unfold EU
 rw[h1,h2]
def JQ(c:Cra)(t:Int):Bool:=!cRight t||(c.1&&decide (t<=c.2.1))
theorem Jt{F:Fs}(hF:LY F){c:Cra}{t:Int}(h:JQ c t=true)(b:ByteArray):Dk F c t b=(c,noBytes):=by
 unfold JQ at h
 unfold Dk QQ
 rw[hF.right]
 cases hr:cRight t
 ·rfl
 ·rw[hr]at h
  simp only[Bool.not_true,Bool.false_or,Bool.and_eq_true]at h
  simp only[Bool.not_true,Bool.false_eq_true,if_false]
  rw[if_pos h.1,if_pos h.2]
theorem Rx{F:Fs}(hF:LY F){c:Cra}{t:Int}(h:JQ c t=false)(b:ByteArray):Dk F c t b=JK F (fun _=>takeW F c t b) c t b/\cRight t=true/\(c.1=true->c.2.1<t):=by
 unfold JQ at h
 unfold Dk QQ
 rw[hF.right]
 cases hr:cRight t
 ·rw[hr]at h;cases h
 ·rw[hr]at h
  simp only[Bool.not_true,Bool.false_or]at h
  simp only[Bool.not_true,Bool.false_eq_true,if_false]
  cases hc:c.1
  ·exact⟨rfl,by trivial,fun h=>by cases h⟩
  ·rw[hc]at h
   simp only[Bool.true_and]at h
   simp only[if_true]
   rw[h]
   exact⟨rfl,by trivial,fun _=>by have:=of_decide_eq_false h;omega⟩
theorem Aml{F:Fs}(hF:LY F){c:Cra}(hI:Md c)(t:Int)(b:ByteArray)(hr:cRight t=true)(hl:c.1=true->c.2.1<t):
    Awc F c t b (JK F (fun _=>takeW F c t b) c t b).1/\(JK F (fun _=>takeW F c t b) c t b).2=Pj (MD (Me F (JK F (fun _=>takeW F c t b) c t b).1)):=by
 obtain⟨hm,ho⟩:=Rw hF c hI.ak t b
 unfold JK
 dsimp only
 have hpO:∀x,x=(takeW F c t b).2->x.2.2.2=(takeW F c t b).2.2.2.2/\Mb (takeW F c t b).2:=fun x e=>by rw[e];exact⟨rfl,ho⟩
 generalize hT:takeW F c t b=T at hm ho ⊢
 obtain⟨c1,x⟩:=T
 dsimp only at hm ho ⊢
 generalize driftW F c1.2.2.2.2.2.2.1 x=dr
 obtain⟨g,s,e,hg,hs⟩:=Ase F (setDri c1 dr) x t
 rw[e]
 generalize skyW F (setDri c1 dr) t=y
 have hp:Vd (Rn (cPlan (setGue (setDri c1 dr) g))):=by
  show Vd (Rn (cPlan c1))
  rcases hm.plan with e |e<;>rw[e]
  ·exact hI.p
  ·exact⟨hI.p.c,hI.p.g,hI.p.i,hI.p.l,hI.p.m0,hI.p.m3,Int.le_refl 0,show(0:Int)<=15 by decide⟩
 have hq:=Amj hF hp s x y
 have hpl:=Xf hF (setGue (setDri c1 dr) g) s x y
 unfold QP
 dsimp only
 generalize planW F (setGue (setDri c1 dr) g) s x y=P at hq hpl ⊢
 have hi:Md (Tr (setGue (setDri c1 dr) g) t P.1 P.2):=⟨hr,hq,fun h=>Bool.noConfusion h,hm.ak⟩
 have hpx:=hpO x (by rw[hT])
 refine⟨⟨hr,hl,hi,rfl,rfl,hm.left,cPlan c1,s,hm.plan,?_,hs.trans hpx.1,hpx.2,hpl⟩,Amk hF hi⟩
 rw[hg]
 exact congrArg _ (Vh hm.on hm.tick t)
theorem Awd{F:Fs}(hF:LY F){c:Cra}(hI:Md c){t:Int}(b:ByteArray)(h:JQ c t=false):
    Awc F c t b (Dk F c t b).1/\(Dk F c t b).2=Pj (MD (Me F (Dk F c t b).1)):=by
 obtain⟨e,hr,hl⟩:=Rx hF h b
 rw[e]
 exact Aml hF hI t b hr hl
section
variable {P:Program}
end
abbrev Bn:=Cra×ByteArray
def bnL(s:Bn):List Value:=Ajh.enc s.1++[.string s.2]
def Ag6(F:Fs)(hF:FsOk F):Ct Tryz.prog:=EN Tryz.prog 51 (Ad Bo (Ad cI (Ac cS))) (fun x K=>x.1.2.2.1.size+x.2.2.size<=5000/\K ((AV Bo cS).enc (Dk F x.1 x.2.1 x.2.2))) (fun _ _ _ hK hs=>⟨hs.1,hK _ hs.2⟩) (Af Tryz.func51 (by kernel_rfl) (by kernel_rfl))
 (fun x w hw K hs=>Calls.mono (Agp hF x.1 x.2.1 x.2.2 hs.1 w hw) (by rintro e w' ⟨rfl,hb⟩;exact⟨_,rfl,rfl,hs.2,hb⟩))
def Ag7(sS d0 d1 d2 N:Nat)(K:List Value->Xm->Prop)(vt:List Value)(m:Xm):Prop:=match vt.getD sS undef with
 | .string s=>vt.length=N/\K (((vt.set d0 (.string s)).set d1 (.string (toldT s))).set d2 (.string (toldT s))) m
 |_=>False
section
variable {bs:List Nat} {w0:World} {ds:List Deferred} {bl0:Bl} {K:List Value->Xm->Prop} {Q:Exit->Act->World->Prop}
theorem Ry{bl:Bl}{vt:List Value}{m:Xm}{a:Act}{w:World}{ops:Array Oper}{id sS d0 d1 d2 N:Nat}{ats:Array TypeId}{o0 o1 o2:Oper}(ho:ops=#[o0,o1,o2])
    (h0:o0.dst=some d0/\o0.op=.move (.tmp sS)/\o0.guard=none) (h1:o1.dst=some d1/\o1.op=.call {callee:=.value (.func 52),args:=#[.tmp d0],argTypes:=ats}/\o1.guard=none) (h2:o2.dst=some d2/\o2.op=.assign (.tmp d1)/\o2.guard=none)
    (hN:d0<N/\d1<N/\d2<N) (hw:SW w0) (hlies:5<w0.heap.size) (hb:∀i∈bs,5<i)
    (h:Ag7 sS d0 d1 d2 N K vt m) (rl:Rl bs w0 ds bl0 bl vt m a w) (hK:∀bl vt m a w,K vt m->Rl bs w0 ds bl0 bl vt m a w->Q .normal a w):(Code.region id ops false).wp Tryz.prog Q a w:=by
 subst ho
 unfold Ag7 at h
 split at h
 case h_2=>exact h.elim
 rename_i s hs
 obtain⟨hlt,hk⟩:=h
 have hlen:=rl.F.len
 rw[hlt]at hlen
 have ES:a.eval (.tmp sS)=.string s:=by
  have:=rl.F.rv sS
  rw[hs]at this
  exact this
 refine wp_region ?_
 refine Ay (v:=.string s) (v':=.string s) (w':=w) rfl h0.1 (Aq h0.2.2) (by simp[execOp,h0.2.1,ES]) rl.F rl.defers hlen hN.1 rfl fun a F D hlen E0 X=>?_
 have hsw:SW w:=hw.kept fun i hi=>rl.R.block i (by omega) (fun e=>by have:=hb i e;omega)
 refine IB (o:=o1) (args:=#[.string s]) rfl h1.2.2 ?_ (Ag4 s w hsw) ?_
 ·have:=Af Tryz.func52 (by kernel_rfl) (by kernel_rfl) #[.string s] w
  have hf:a.eval (.func 52)=.func (.func 52) #[] #[]:=rfl
  simp[execOp,h1.2.1,resolve,hf,E0,Deferred.ofValue,invoke,this]
 rintro e w' ⟨rfl,hB⟩
 refine⟨_,rfl,?_⟩
 rw[h1.1]
 have R':=rl.R.pure hB
 have F:=F.put (v:=.string (toldT s)) (v':=.string (toldT s)) rfl (some d1)
 have D:=(AJ a (some d1) (.string (toldT s))).trans D
 have E1:(a.put (some d1) (.string (toldT s))).eval (.tmp d1)=.string (toldT s):=DC (by rw[hlen];exact hN.2.1)
 have hlen:=(Db (a:=a) (d:=some d1) (v:=.string (toldT s))).trans hlen
 generalize a.put (some d1) (.string (toldT s))=a at F D E1 hlen ⊢
 refine Ay (v:=.string (toldT s)) (v':=.string (toldT s)) (w':=w') rfl h2.1 (Aq h2.2.2) (by simp[execOp,h2.2.1,E1]) F D hlen hN.2.2 rfl fun a F D hlen E2 X=>?_
 exact hK _ _ _ _ _ hk ⟨F,R',rl.le,rl.len,D⟩
end
def stO(sl:Value)(r:Option (List Value)):Ov:=fun id=>match id with
 |1=>some fun _ _=>Xc 1 11 12 10 13 14 5 6 42 1 sl r
 |8=>some fun _ _=>Ag7 9 40 41 4 42
 |_=>none
section
variable (F:Fs) (hF:FsOk F)
set_option maxRecDepth 100000 in
theorem Ag8(sl:Value)(t:Int)(c:Cra)(s:ByteArray)(Post:Value->Option (List Value)->Prop):
    BR Tryz.prog [Ag6 F hF] (fun _=>[]) 8 (stO sl (some [.int .i64 t])) (AP Tryz.prog 35) (Cv Tryz.prog (BA Tryz.prog 35) (fun v m=>Post v m[1]?)) ([ptr 1,sl]++List.replicate ((BA Tryz.prog 35).ntmps-2) undef) [[],bnL (c,s)]=
      (sl=sl/\42=42/\c.2.2.1.size+s.size<=5000/\42=42/\Post (.string (toldT (Dk F c t s).2)) (some (bnL ((Dk F c t s).1,noBytes)))):=by kernel_rfl
set_option maxRecDepth 100000 in
theorem Amm(sl:Value)(c:Cra)(s:ByteArray)(Post:Value->Option (List Value)->Prop):
    BR Tryz.prog [Ag6 F hF] (fun _=>[]) 8 (stO sl none) (AP Tryz.prog 35) (Cv Tryz.prog (BA Tryz.prog 35) (fun v m=>Post v m[1]?)) ([ptr 1,sl]++List.replicate ((BA Tryz.prog 35).ntmps-2) undef) [[],bnL (c,s)]=
      (sl=sl/\42=42/\Post (.string err1) (some (bnL (c,s)))):=by kernel_rfl
end
set_option maxRecDepth 100000 in
theorem Asi{bs:List Nat}{w:World}{v sl:Value}{bl0:Bl}{r:Option (List Value)}(hne:sl≠.nilIface)(hrv:RV bl0 sl v)(hc:Gi bs w v 1 r)(hw:SW w)(hlies:5<w.heap.size)(hb:∀i∈bs,5<i):D9 Tryz.prog (stO sl r) bs w [] bl0 (AP Tryz.prog 35):=by
 refine EF (ns:=[(1,#[Bc Tryz.prog 35 1 0,Bc Tryz.prog 35 1 1,Bc Tryz.prog 35 1 2,Bc Tryz.prog 35 1 3,Bc Tryz.prog 35 1 4,Bc Tryz.prog 35 1 5,Bc Tryz.prog 35 1 6],false),(8,#[Bc Tryz.prog 35 8 0,Bc Tryz.prog 35 8 1,Bc Tryz.prog 35 8 2],false)]) (by kernel_rfl) ?_
 intro r hr
 rcases List.mem_cons.1 hr with rfl |hr
 ·intro R hR K Q bl vt m a w h' rl hK
  cases hR
  exact Gj (ats:=#[29,3]) rfl ⟨by kernel_rfl,by kernel_rfl,by kernel_rfl⟩ ⟨by kernel_rfl,by kernel_rfl,by kernel_rfl⟩ ⟨by kernel_rfl,by kernel_rfl,by kernel_rfl⟩ ⟨by kernel_rfl,by kernel_rfl,by kernel_rfl⟩ ⟨by kernel_rfl,by kernel_rfl,by kernel_rfl⟩ ⟨by kernel_rfl,by kernel_rfl,by kernel_rfl⟩ ⟨by kernel_rfl,by kernel_rfl,by kernel_rfl⟩ (by decide) (by decide) (by decide) hne hrv hc h' rl hK
 rcases List.mem_cons.1 hr with rfl |hr
 ·intro R hR K Q bl vt m a w h' rl hK
  cases hR
  exact Ry (ats:=#[9]) rfl ⟨by kernel_rfl,by kernel_rfl,by kernel_rfl⟩ ⟨by kernel_rfl,by kernel_rfl,by kernel_rfl⟩ ⟨by kernel_rfl,by kernel_rfl,by kernel_rfl⟩ (by decide) hw hlies hb h' rl hK
 ·cases hr
def stepT(F:Fs)(s:Bn)(ws:List ByteArray):ByteArray×Bn:=if CR ws 1 then(toldT (Dk F s.1 (AY ws 1 0) s.2).2,(Dk F s.1 (AY ws 1 0) s.2).1,noBytes)else(err1,s)
set_option maxRecDepth 100000 in
theorem Gl{f:Nat}(hf:Tryz.prog.funcs[f]? =some (BA Tryz.prog f))(hb:(BA Tryz.prog f).body=some (AP Tryz.prog f)){b:Nat}{w:World}{v sl y:Value}{x:Option Nat}{l l':List Value}(R0:RW [b] w [x,some b] [[],l] w)(hrv:RV [x,some b] sl v){ov:Ov}{tbl:List (Ct Tryz.prog)}(ho:D9 Tryz.prog ov [b] w [] [x,some b] (AP Tryz.prog f)){Pst:Value->Option (List Value)->Prop}(hP:∀u o,Pst u o->u=y/\o=some l')
    (hr:BR Tryz.prog tbl (fun _=>[]) 8 ov (AP Tryz.prog f) (Cv Tryz.prog (BA Tryz.prog f) (fun v m=>Pst v m[1]?)) ([ptr 1,sl]++List.replicate ((BA Tryz.prog f).ntmps-2) undef) [[],l]):
    Calls Tryz.prog f #[ptr b,v] w fun e w'=>e=.returned y/\Ap b l' w'/\Aa b w w':=by
 refine Calls.mono (Jb Ag hf hb (vargs:=[ptr 1,sl]) (args:=#[ptr b,v]) R0 rfl rfl (fun i=>?_) ho (Post:=fun v m=>Pst v m[1]?) hr) ?_
 ·match i with
  |0=>exact⟨b,rfl,rfl⟩
  |1=>exact hrv
  |_+2=>rfl
 ·rintro e w' ⟨u,bl',m2,rfl,hp,R',hle'⟩
  obtain⟨hu,hm⟩:=hP _ _ hp
  obtain⟨l2,e1,A⟩:=R'.arr 1 b (hle' 1 b rfl)
  rw[hm]at e1
  rw[<-Option.some.inj e1]at A
  exact⟨by rw[hu],A,R'.os,R'.tape,R'.output,R'.size,fun i hi hne=>R'.block i hi (by rw[List.mem_singleton];exact hne)⟩
set_option maxHeartbeats 1000000 in
set_option maxRecDepth 100000 in
theorem ZI{F:Fs}(hF:FsOk F)(b:Nat)(s:Bn)(v:Value)(ws:List ByteArray)(w:World)(hw:SW w)(hg:GW w)(hb:7<b)(hA:Ap b (bnL s) w)(hv:CE w v ws)(ha:Ey [b] w v)(hz:s.1.2.2.1.size+s.2.size<=5000)(hs:∀i,(ws.getD i ⟨#[]⟩).size<=100000)(hl:ws.length<=100000):
    Calls Tryz.prog 35 #[ptr b,v] w fun e w'=>e=.returned (.string (stepT F s ws).1)/\Ap b (bnL (stepT F s ws).2) w'/\Aa b w w':=by
 obtain⟨cr,st⟩:=s
 have hb5:∀i∈[b],5<i:=fun i hi=>by rw[List.mem_singleton.1 hi];omega
 have hlies:=hg.2.lies
 have hc:=Kl (m:=1) hw hg hv ha hb5 (by decide) (by decide) hs hl
 obtain⟨a,c,rfl,_,_⟩:=hv
 obtain⟨sl,x,hR,hxa⟩:∃sl x,Pg w (.slice a ws.length c) sl x/\x=a.map (·.block):=by
  cases a with
  |none=>exact⟨.slice none ws.length c,none,⟨nofun,rfl,nofun⟩,rfl⟩
  |some ad=>exact⟨.slice (some {ad with block:=0}) ws.length c,some ad.block,⟨nofun,⟨ad.block,rfl,rfl⟩,fun g e=>by cases e;exact(ha _ _ _ rfl ad rfl).1⟩,rfl⟩
 have hx:x≠some b:=by
  rw[hxa]
  cases a with
  |none=>nofun
  |some ad=>exact fun e=>(ha _ _ _ rfl ad rfl).2 (List.mem_singleton.2 (Option.some.inj e))
 have hle:Le [x] [x,some b]:=Le.last [x] (some b)
 have R0:RW [b] w [x,some b] [[],bnL (cr,st)] w:=by
  refine⟨fun i B hi=>?_,fun i j B hi hj=>?_,fun i B hi=>?_,rfl,rfl,rfl,Nat.le_refl _,fun _ _ _=>rfl,hg,fun b' hb'=>by rw[List.mem_singleton.1 hb'];exact hb⟩
  ·match i,hi with
   |0,hi=>exact⟨[],rfl,fun i h=>absurd h (Nat.not_lt_zero i),fun i h=>absurd h (Nat.not_lt_zero i),hR.lies B (Option.some.inj hi)⟩
   |1,hi=>cases hi;exact⟨_,rfl,hA⟩
  ·match i,j,hi,hj with
   |0,0,_,_=>rfl
   |1,1,_,_=>rfl
   |0,1,hi,hj=>cases hj;exact absurd (Option.some.inj hi) hx
   |1,0,hi,hj=>cases hi;exact absurd (Option.some.inj hj) hx
  ·match i,hi with
   |0,_=>exact .inr (.inr rfl)
   |1,hi=>cases hi;exact .inl List.mem_cons_self
 obtain⟨Pst,hP⟩:∃Pst:Value->Option (List Value)->Prop,Pst=fun v l=>v=.string (stepT F (cr,st) ws).1/\l=some (bnL (stepT F (cr,st) ws).2):=⟨_,rfl⟩
 have hrun:BR Tryz.prog [Ag6 F hF] (fun _=>[]) 8 (stO sl (ME ws 1)) (AP Tryz.prog 35) (Cv Tryz.prog (BA Tryz.prog 35) (fun v m=>Pst v m[1]?)) ([ptr 1,sl]++List.replicate ((BA Tryz.prog 35).ntmps-2) undef) [[],bnL (cr,st)]:=by
  unfold ME
  by_cases h:CR ws 1
  ·have e:stepT F (cr,st) ws=(toldT (Dk F cr (AY ws 1 0) st).2,(Dk F cr (AY ws 1 0) st).1,noBytes):=if_pos h
   rw[e]at hP
   rw[if_pos h]
   refine Eq.mpr (Ag8 F hF sl (AY ws 1 0) cr st Pst) ⟨rfl,rfl,hz,rfl,?_⟩
   rw[hP]
   exact⟨rfl,rfl⟩
  ·have e:stepT F (cr,st) ws=(err1,cr,st):=if_neg h
   rw[e]at hP
   rw[if_neg h]
   refine Eq.mpr (Amm F hF sl cr st Pst) ⟨rfl,rfl,?_⟩
   rw[hP]
   exact⟨rfl,rfl⟩
 exact Gl (by kernel_rfl) (by kernel_rfl) R0 (hR.rv.mono hle) (Asi hR.ne (hR.rv.mono hle) hc hw (by omega) hb5) (fun u o h=>by rw[hP]at h;exact h) hrun
theorem BG{R:Value->Value->Prop}{t:Value}{ts vs:List Value}(h:As R (t::ts) vs):∃v r,vs=v::r/\R t v/\As R ts r:=by
 cases vs with
 |nil=>exact h.elim
 |cons v r=>exact⟨v,r,rfl,h.1,h.2⟩
theorem Mf{R:Value->Value->Prop}{vs:List Value}(h:As R [] vs):vs=[]:=by
 cases vs with
 |nil=>rfl
 |cons v r=>exact h.elim
def GK(n:Int):Prop:=-9223372036854775808<=n/\n<=9223372036854775807
def uR:Value:=Atk .i64 9223372036854775807
def rR(n:Nat):Value:=.agg ⟨List.replicate n uR⟩
def guR:Value:=.agg ⟨List.replicate 7 uR++List.replicate 36 uI⟩
theorem Awe:loN 9223372036854775807=-9223372036854775808:=by decide+kernel
theorem MF{τ:Nat->Int}{n:Int}(h:GK n):G2 τ uR (.int .i64 n):=⟨n,rfl,by rw[Awe];exact h.1,h.2⟩
theorem FI{τ:Nat->Int}{v:Value}(h:G0 τ uR v):∃n,v=.int .i64 n/\GK n:=by
 obtain⟨n,e,h0,h1⟩:=h
 rw[Awe]at h0
 exact⟨n,e,h0,h1⟩
theorem Ag9{P:Program}{f:Nat}{A R:Type}{d:Dl A}{g:Bool->A->R×Bool}{c:Dc R}(h:Ba P f d g c){sa:List Value}{sr fb:Value}(hd:∀rest,As (G2 (fun _=>0)) sa rest->∃x,d.enc x=rest)(hc:∀τ bad x,G2 τ sr (c.enc (g bad x).1))(hst:∀x,(g true x).2=true)(hfb:∀τ bad x,G0 τ fb (.bool (g bad x).2)):∃g',BP P nq f sa sr fb g':=by
 have key:∀(x:Bool×List Value),∃y:Value×Bool,As (G2 (fun _=>0)) sa x.2->(∀b w,GW w->7<b->Fl b x.1 w->Calls P f (ptr b::x.2).toArray w fun e w'=>e=.returned y.1/\Fl b y.2 w'/\Aa b w w')/\(x.1=true->y.2=true)/\
  ∃τ',G0 τ' fb (.bool y.2)/\G2 τ' sr y.1/\(y.2=true∨nq τ'):=by
  rintro⟨bad,rest⟩
  by_cases hx:As (G2 (fun _=>0)) sa rest
  ·obtain⟨x,rfl⟩:=hd rest hx
   obtain⟨τ,hτ⟩:=Ao
   exact⟨(c.enc (g bad x).1,(g bad x).2),fun _=>⟨fun b w hg h1 hw=>h b bad x w hg h1 hw,(fun e=>by dsimp only at e ⊢;rw[e];exact hst x),τ,hfb τ bad x,hc τ bad x,.inr hτ⟩⟩
  ·exact⟨(undef,false),fun e=>absurd e hx⟩
 exact⟨fun bad rest=>Classical.choose (key (bad,rest)),fun bad rest hr=>Classical.choose_spec (key (bad,rest)) hr⟩
theorem Amo(bad:Bool)(a b:Int):GK (Ca bad a b).1:=by
 unfold Ca
 split
 ·unfold gv numB
  dsimp only
  split
  ·rename_i h
   simp at h
   unfold GK
   omega
  ·exact⟨by decide,by decide⟩
 ·exact⟨by show(-9223372036854775808:Int)<=0;decide,by show(0:Int)<=9223372036854775807;decide⟩
theorem Amp{n d:Int}(hn:0<=n)(hd:0<=d):0<=rnd n d:=by
 unfold rnd
 have:0<=d / 2:=Int.ediv_nonneg hd (by decide)
 exact Int.ediv_nonneg (by omega) hd
theorem Aha(bad:Bool)(a p q:Int):GK (Aw bad a p q).1:=by
 unfold Aw
 split
 ·unfold out Kn
  dsimp only
  have hs:∀z,0<=sz z:=fun z=>by unfold sz;split<;>omega
  have h0:0<=rnd (sz a*sz p) (sz q):=Amp (Int.mul_nonneg (hs a) (hs p)) (hs q)
  generalize rnd (sz a*sz p) (sz q)=n at h0 ⊢
  unfold GK
  split
  ·split<;>omega
  ·exact⟨by decide,by decide⟩
 ·exact⟨by show(-9223372036854775808:Int)<=0;decide,by show(0:Int)<=9223372036854775807;decide⟩
def Awf:ACt Tryz.prog nq:=AL false (Af Tryz.func151 (by kernel_rfl) (by kernel_rfl)) (Ag9 (f:=151) (sr:=uR) (d:=Ad cI (Ac cI)) (g:=fun bad x=>Ca bad x.1 x.2) (c:=cI) (fun b bad x w _ _ hw=>BM b bad x.1 x.2 w hw) d2 (fun τ bad x=>MF (Amo bad x.1 x.2)) (fun x=>by rw[JZ (show tk true _=false from rfl)]) (fun τ _ _=>Z8 τ _)) (by decide+kernel)
def Awg:ACt Tryz.prog nq:=AL false (Af Tryz.func216 (by kernel_rfl) (by kernel_rfl)) (Ag9 (f:=216) (sr:=uR) (d:=Ad cI (Ac cI)) (g:=fun bad x=>Bt bad x.1 x.2) (c:=cI) (fun b bad x w _ _ hw=>B8 b bad x.1 x.2 w hw) d2 (fun τ bad x=>MF (Aha bad x.1 1099511627776 x.2)) (fun x=>by show(Bt true x.1 x.2).2=true;unfold Bt;rw[Ei (show tk true _=false from rfl)]) (fun τ _ _=>Z8 τ _)) (by decide+kernel)
set_option maxHeartbeats 400000 in
theorem Vi(a:Int)(w:World):
    Calls Tryz.prog 279 #[.int .i64 a] w fun e w'=>e=.returned (.int .i64 (EP a))/\Below w.heap.size w w':=by
 by_cases h1:a< -4611686018427387904
 ·have HS:Hid _:=Yz h1
  go_enter Tryz.func279,Tryz.ntmps279
  go_wp2
  go_ret
  rw[HS.out]
  exact⟨rfl,Below.refl _ _⟩
 ·by_cases h2:4611686018427387904<a
  ·have HS:Hid _:=YA h2
   go_enter Tryz.func279,Tryz.ntmps279
   go_wp2
   go_ret
   rw[HS.out]
   exact⟨rfl,Below.refl _ _⟩
  ·have HS:Hid _:=YB (by omega) (by omega:a<=4611686018427387904)
   go_enter Tryz.func279,Tryz.ntmps279
   go_wp2
   go_ret
   rw[HS.out]
   exact⟨rfl,Below.refl _ _⟩
theorem ZJ{a:Int}(h:GK a):GK (EP a):=by
 unfold EP GK at *
 split
 ·exact h
 ·split
  ·exact h
  ·omega
theorem Ahb:∃g,Ps Tryz.prog 279 [uR] uR g:=by
 have key:∀rest:List Value,∃y:Value,As (G2 (fun _=>0)) [uR] rest->(∀w,GW w->Calls Tryz.prog 279 rest.toArray w fun e w'=>e=.returned y/\Below w.heap.size w w')/\∃τ',G2 τ' uR y:=by
  intro rest
  by_cases hx:As (G2 (fun _=>0)) [uR] rest
  ·obtain⟨v,r,rfl,hv,hr⟩:=BG hx
   obtain rfl:=Mf hr
   have hv0:G0 (fun _=>0) uR v:=hv
   obtain⟨n,rfl,hn⟩:=FI hv0
   exact⟨.int .i64 (EP n),fun _=>⟨fun w _=>Vi n w,fun _=>0,MF (ZJ hn)⟩⟩
  ·exact⟨undef,fun e=>absurd e hx⟩
 exact⟨fun rest=>Classical.choose (key rest),fun rest hr=>Classical.choose_spec (key rest) hr⟩
def Asj:ACt Tryz.prog nq:=Hc (Af Tryz.func279 (by kernel_rfl) (by kernel_rfl)) Ahb (by decide+kernel)
theorem Ahc:∃g,Ps Tryz.prog 234 [rR 4] (rR 4) g:=Cg (nq:=nq) (tbl:=[Asj]) (dirty:=fun _=>[]) (n:=8) Ag Tryz.func234 rfl (by decide+kernel)
def Asl:ACt Tryz.prog nq:=Hc (Af Tryz.func234 (by kernel_rfl) (by kernel_rfl)) Ahc (by decide+kernel)
theorem ZK:∃g,BP Tryz.prog nq 159 [rI 4] (rR 4) unkB g:=Aj (tbl:=[ID,Lx,Ab1,FE,Awg,Asl]) (dirty:=fun _=>[]) (n:=8) Ao Ag Tryz.func159 rfl (by decide+kernel)
def Xg:ACt Tryz.prog nq:=AL false (Af Tryz.func159 (by kernel_rfl) (by kernel_rfl)) ZK (by decide+kernel)
theorem Ahd:∃g,BP Tryz.prog nq 165 [rI 4,rI 6] (rR 4) unkB g:=Aj (tbl:=[Eu,Gz,QT,Xg]) (dirty:=fun _=>[]) (n:=8) Ao Ag Tryz.func165 rfl (by decide+kernel)
def Ahe:ACt Tryz.prog nq:=AL false (Af Tryz.func165 (by kernel_rfl) (by kernel_rfl)) Ahd (by decide+kernel)
theorem Ahf:∃g,BP Tryz.prog nq 252 [rI 9] (rR 4) unkB g:=Aj (tbl:=[EB,Xg,Aus,Aut,Auu,Auv]) (dirty:=fun _=>[]) (n:=8) Ao Ag Tryz.func252 rfl (by decide+kernel)
def Asm:ACt Tryz.prog nq:=AL false (Af Tryz.func252 (by kernel_rfl) (by kernel_rfl)) Ahf (by decide+kernel)
theorem Ahg:∃g,BP Tryz.prog nq 184 [rI 6,rI 6] (rR 4) unkB g:=Aj (tbl:=[Akl,FE,Aqj,YP,Asm]) (dirty:=fun _=>[]) (n:=8) Ao Ag Tryz.func184 rfl (by decide+kernel)
theorem Ahh:∃g,BP Tryz.prog nq 213 [rR 3] (rR 3) unkB g:=Aj (tbl:=[]) (dirty:=fun _=>[]) (n:=8) Ao Ag Tryz.func213 rfl (by decide+kernel)
def Asn:ACt Tryz.prog nq:=AL false (Af Tryz.func213 (by kernel_rfl) (by kernel_rfl)) Ahh (by decide+kernel)
theorem Ahi:∃g,BP Tryz.prog nq 138 [rI 3,rI 3] (rR 3) unkB g:=Aj (tbl:=[Awf,Asn]) (dirty:=fun _=>[]) (n:=8) Ao Ag Tryz.func138 rfl (by decide+kernel)
def Aso:ACt Tryz.prog nq:=AL false (Af Tryz.func138 (by kernel_rfl) (by kernel_rfl)) Ahi (by decide+kernel)
theorem Ahj:∃g,BP Tryz.prog nq 166 [rI 3,rI 6] (rR 3) unkB g:=Aj (tbl:=[Eu,Aso]) (dirty:=fun _=>[]) (n:=8) Ao Ag Tryz.func166 rfl (by decide+kernel)
def Ahk:ACt Tryz.prog nq:=AL false (Af Tryz.func166 (by kernel_rfl) (by kernel_rfl)) Ahj (by decide+kernel)
theorem Ahl:∃g,BP Tryz.prog nq 176 [rI 43,rI 36,rI 36,rI 6] guR unkB g:=Aj (tbl:=[Ke,Ly,Kf,Ahe,Ahk,QY]) (dirty:=fun _=>[]) (n:=8) Ao Ag Tryz.func176 rfl (by decide+kernel)
def Asp:ACt Tryz.prog nq:=AL false (Af Tryz.func176 (by kernel_rfl) (by kernel_rfl)) Ahl (by decide+kernel)
theorem Ahm:∃g,BP Tryz.prog nq 164 [guR] guR unkB g:=Aj (tbl:=[]) (dirty:=fun _=>[]) (n:=8) Ao Ag Tryz.func164 rfl (by decide+kernel)
def Asq:ACt Tryz.prog nq:=AL false (Af Tryz.func164 (by kernel_rfl) (by kernel_rfl)) Ahm (by decide+kernel)
theorem Ahn:∃g,BP Tryz.prog nq 107 [rI 43,rI 3,uI] guR unkB g:=Aj (tbl:=[FE,LC,Ako,Tw,Aed,TF,Lz,Hu,Asq,Ahe,Ahk,LA,F0]) (dirty:=fun _=>[]) (n:=8) Ao Ag Tryz.func107 rfl (by decide+kernel)
theorem Aho:∃g,BP Tryz.prog nq 108 [guR,rI 6,rI 6] (.tuple ⟨[guR,uI,unkB]⟩) unkB g:=Aj (tbl:=[LC,QZ,Wh,TF,Lz,LA,Hu,Ly,IE,TA,Kf,Ke,Asp]) (dirty:=fun _=>[]) (n:=8) Ao Ag Tryz.func108 rfl (by decide+kernel)
def Ju(g:Tup 43):Prop:=GK g.1/\GK g.2.1/\GK g.2.2.1/\GK g.2.2.2.1/\GK g.2.2.2.2.1/\GK g.2.2.2.2.2.1/\GK g.2.2.2.2.2.2.1
def QuR(q:Tup 4):Prop:=GK q.1/\GK q.2.1/\GK q.2.2.1/\GK q.2.2.2.1
theorem GK.zero:GK 0:=⟨by decide,by decide⟩
theorem Vj{τ:Nat->Int}{v:Value}(h:G1 τ guR v):∃x:Tup 43,(cT 43).enc x=v/\Ju x:=by
 obtain⟨l,rfl,gl⟩:=h
 have gl:As (G0 τ) (uR::uR::uR::uR::uR::uR::uR::List.replicate 36 uI) l:=gl
 obtain⟨v0,l,rfl,e0,gl⟩:=BG gl
 obtain⟨v1,l,rfl,e1,gl⟩:=BG gl
 obtain⟨v2,l,rfl,e2,gl⟩:=BG gl
 obtain⟨v3,l,rfl,e3,gl⟩:=BG gl
 obtain⟨v4,l,rfl,e4,gl⟩:=BG gl
 obtain⟨v5,l,rfl,e5,gl⟩:=BG gl
 obtain⟨v6,r,rfl,e6,gr⟩:=BG gl
 obtain⟨n0,rfl,r0⟩:=FI e0
 obtain⟨n1,rfl,r1⟩:=FI e1
 obtain⟨n2,rfl,r2⟩:=FI e2
 obtain⟨n3,rfl,r3⟩:=FI e3
 obtain⟨n4,rfl,r4⟩:=FI e4
 obtain⟨n5,rfl,r5⟩:=FI e5
 obtain⟨n6,rfl,r6⟩:=FI e6
 obtain⟨y,rfl⟩:=J8 36 r gr
 exact⟨(n0,n1,n2,n3,n4,n5,n6,y),rfl,r0,r1,r2,r3,r4,r5,r6⟩
theorem Ahp{τ:Nat->Int}{v:Value}(h:G1 τ (rR 4) v):∃x:Tup 4,(cT 4).enc x=v/\QuR x:=by
 obtain⟨l,rfl,gl⟩:=h
 have gl:As (G0 τ) [uR,uR,uR,uR] l:=gl
 obtain⟨v0,l,rfl,e0,gl⟩:=BG gl
 obtain⟨v1,l,rfl,e1,gl⟩:=BG gl
 obtain⟨v2,l,rfl,e2,gl⟩:=BG gl
 obtain⟨v3,l,rfl,e3,gl⟩:=BG gl
 obtain rfl:=Mf gl
 obtain⟨n0,rfl,r0⟩:=FI e0
 obtain⟨n1,rfl,r1⟩:=FI e1
 obtain⟨n2,rfl,r2⟩:=FI e2
 obtain⟨n3,rfl,r3⟩:=FI e3
 exact⟨(n0,n1,n2,n3,()),rfl,r0,r1,r2,r3⟩
theorem Awh{x:Tup 43}(h:Ju x):G2 (fun _=>0) guR ((cT 43).enc x):=
 ⟨tEnc 43 x,rfl,MF (τ:=fun _=>0) h.1,MF (τ:=fun _=>0) h.2.1,MF (τ:=fun _=>0) h.2.2.1,MF (τ:=fun _=>0) h.2.2.2.1,MF (τ:=fun _=>0) h.2.2.2.2.1,MF (τ:=fun _=>0) h.2.2.2.2.2.1,MF (τ:=fun _=>0) h.2.2.2.2.2.2,Od 36 x.2.2.2.2.2.2.2⟩
theorem Ahq:∀(n:Nat) (x:Tup n),Ss n (tEnc n x)=some x
 |0,_=>rfl
 | n+1,x=>by
  show(match Ss n (tEnc n x.2)with
   |some y=>some (x.1,y)
   |none=>none)=some x
  rw[Ahq n x.2]
  rfl
theorem Ahr{n:Nat}{x y:Tup n}(h:(cT n).enc x=(cT n).enc y):x=y:=by
 have e:tEnc n x=tEnc n y:=congrArg (fun v:Value=>match v with
  | .agg cs=>cs.toList
  |_=>[]) h
 have:=Ahq n x
 rw[e,Ahq n y]at this
 exact(Option.some.inj this).symm
theorem Ahs:∃g,Ba Tryz.prog 107 (Ad (cT 43) (Ad (cT 3) (Ac cI))) g (cT 43)/\∀bad x,Ju (g bad x).1:=by
 obtain⟨g,h,k⟩:=BV Ahn (Ad (cT 43) (Ad (cT 3) (Ac cI))) (cT 43) (fun x=>⟨Fj 43 x.1,Fj 3 x.2.1,⟨x.2.2,rfl⟩,trivial⟩) (fun _ v h=>by obtain⟨y,e,_⟩:=Vj h;exact⟨y,e⟩)
 refine⟨g,h,fun bad x=>?_⟩
 obtain⟨_,τ',g2,_⟩:=k bad x
 obtain⟨y,ey,hy⟩:=Vj g2
 rw[<-Ahr ey]
 exact hy
theorem Amq:∃g,Ba Tryz.prog 184 (Ad (cT 6) (Ac (cT 6))) g (cT 4)/\∀bad x,QuR (g bad x).1:=by
 obtain⟨g,h,k⟩:=BV Ahg (Ad (cT 6) (Ac (cT 6))) (cT 4) (fun x=>⟨Fj 6 x.1,Fj 6 x.2,trivial⟩) (fun _ v h=>by obtain⟨y,e,_⟩:=Ahp h;exact⟨y,e⟩)
 refine⟨g,h,fun bad x=>?_⟩
 obtain⟨_,τ',g2,_⟩:=k bad x
 obtain⟨y,ey,hy⟩:=Ahp g2
 rw[<-Ahr ey]
 exact hy
theorem Aht:∃g,Ba Tryz.prog 108 (Ad (cT 43) (Ad (cT 6) (Ac (cT 6)))) g (I6 (cT 43) cI cB)/\∀bad x,Ju x.1->Ju (g bad x).1.1:=by
 obtain⟨g0,h0⟩:=Ak0
 obtain⟨g1,h1⟩:=Aho
 have key:∀x:Bool×Tup 43×Tup 6×Tup 6,∃y:(Tup 43×Int×Bool)×Bool,(∀b w,GW w->7<b->Fl b x.1 w->Calls Tryz.prog 108 (ptr b::(Ad (cT 43) (Ad (cT 6) (Ac (cT 6)))).enc x.2).toArray w fun e w'=>e=.returned ((I6 (cT 43) cI cB).enc y.1)/\Fl b y.2 w'/\Aa b w w')/\(Ju x.2.1->Ju y.1.1):=by
  rintro⟨bad,x⟩
  by_cases hx:Ju x.1
  ·obtain⟨k1,_,τ',_,k4,_⟩:=h1 bad ((Ad (cT 43) (Ad (cT 6) (Ac (cT 6)))).enc x) ⟨Awh hx,Fj 6 x.2.1,Fj 6 x.2.2,trivial⟩
   obtain⟨l,e,gl⟩:=k4
   have gl:As (G1 τ') [guR,uI,unkB] l:=gl
   obtain⟨a,l,rfl,ga,gl⟩:=BG gl
   obtain⟨b,l,rfl,⟨y,eb⟩,gl⟩:=BG gl
   obtain⟨c,l,rfl,⟨z,ec⟩,gl⟩:=BG gl
   obtain rfl:=Mf gl
   obtain⟨q,ez,hq⟩:=Vj ga
   subst ez eb ec
   refine⟨((q,y,z),(g1 bad ((Ad (cT 43) (Ad (cT 6) (Ac (cT 6)))).enc x)).2),fun b w hg hb hf=>?_,fun _=>hq⟩
   have:=k1 b w hg hb hf
   rw[e]at this
   exact this
  ·exact⟨g0 bad x,fun b w hg hb hf=>h0 b bad x w hg hb hf,fun h=>absurd h hx⟩
 exact⟨fun bad x=>Classical.choose (key (bad,x)),fun b bad x w hw hb hf=>(Classical.choose_spec (key (bad,x))).1 b w hw hb hf,fun bad x h=>(Classical.choose_spec (key (bad,x))).2 h⟩
def Ahu(x:Tup 4):Tup 43:=(x.1,x.2.1,x.2.2.1,x.2.2.2.1,0,0,0,17179869184,0,0,0,0,0,0,17179869184,0,0,0,0,0,0,17179869184,0,0,0,0,0,0,16777216,0,0,0,0,0,0,16777216,0,0,0,0,0,0,16777216,())
theorem Ahv:Az Tryz.prog 238 (Ad cI (Ad cI (Ac cI))) (fun x=>if x.1<3 then x.2.1 else x.2.2) cI:=AS (tbl:=[]) (dirty:=fun _=>[]) (n:=4) Ag Tryz.func238 rfl (fun x Post=>by
    refine Eq.trans (b:=?m) ?x (Eq.symm ?y)
    case y=>simp only[<-Aa1 (K:=PJ cI Post)];exact rfl
    case x=>kernel_rfl)
def Axx:Ct Tryz.prog:=AH Tryz.prog 238 (Ad cI (Ad cI (Ac cI))) (fun x=>if x.1<3 then x.2.1 else x.2.2) cI (Af Tryz.func238 (by kernel_rfl) (by kernel_rfl)) Ahv
set_option maxRecDepth 100000 in
theorem ZL:Az Tryz.prog 183 (Ac (cT 4)) Ahu (cT 43):=AS (tbl:=[Axx]) (dirty:=fun _=>[]) (n:=8) Ag Tryz.func183 rfl (fun x Post=>by kernel_rfl)
structure Jv(F:Fs):Prop where
 is:LY F
 move:∀bad x,Ju (F.move bad x).1
 meet:∀bad x,Ju x.1->Ju (F.meet bad x).1.1
 start:∀bad x,Ju (F.start (F.att bad x).1)
theorem Asr:∃F,Jv F:=by
 obtain⟨place,hplace⟩:=Aet
 obtain⟨dir,hdir⟩:=Aqv
 obtain⟨norm,hnorm⟩:=Akz
 obtain⟨apart,hapart⟩:=Aeu
 obtain⟨shaded,hshaded⟩:=Y4
 obtain⟨move,hmove,kmove⟩:=Ahs
 obtain⟨meet,hmeet,kmeet⟩:=Aht
 obtain⟨spread,hspread⟩:=Y5
 obtain⟨att,hatt,katt⟩:=Amq
 obtain⟨bstep,hbstep⟩:=Aev
 obtain⟨sky,hsky⟩:=Ar0
 refine⟨⟨cRight,place,dir,sky,norm,apart,shaded,move,meet,spread,att,Ahu,bstep,Al9,Gh,Kk,Hy,FG,E7,Pd,oreadT⟩,⟨⟨Agl,hplace,hdir,hsky,hnorm,hapart,hshaded,hmove,hmeet,hspread,hatt,ZL,hbstep,Ar1,Ama,Zy,Agm,Xa,All,Agn,Ago⟩,rfl,rfl,rfl,rfl,rfl,rfl,rfl,rfl,rfl⟩,kmove,kmeet,fun bad x=>?_⟩
 obtain⟨a,b,c,d⟩:=katt bad x
 exact⟨a,b,c,d,GK.zero,GK.zero,GK.zero⟩
theorem Rz{s:List UInt8}(h:look s=none):s.length<=68:=by
 unfold look at h
 split at h
 ·omega
 split at h
 ·cases h
 split at h
 ·omega
 split at h
 ·cases h
 split at h
 ·omega
 split at h
 ·cases h
 ·cases h
theorem FB:∀(f:Nat) (s:List UInt8),s.length<=f->(BW f s).2.1.length<=68
 |0,s,h=>by
  show s.length<=68
  omega
 | f+1,s,h=>by
  unfold BW
  split
  ·rename_i e
   exact Rz e
  ·rename_i e
   have:=CK e
   exact FB f (s.drop 1) (by rw[List.length_drop];omega)
  ·rename_i n e
   have:=CK e
   exact FB f (s.drop (n+5)) (by rw[List.length_drop];omega)
theorem RA(L:List UInt8):(restOf L).size<=68:=FB _ L (Nat.le_refl _)
theorem Mg:Ju zeroG:=⟨GK.zero,GK.zero,GK.zero,GK.zero,GK.zero,GK.zero,GK.zero⟩
theorem Pk{F:Fs}{s:See}{g:Tup 43}{b pass:Bool}(h:Ju g):Ju (Oq F s g b pass).1:=by
 unfold Oq
 split<;>exact h
theorem Amr{F:Fs}(hF:Jv F){s:See}{x:Hea}{y:Sky}{r:Tup 43×Bool}(h:Ju r.1):Ju (Qp F s x y r).1:=by
 unfold Qp
 split
 ·split
  ·exact Pk (hF.meet _ _ h)
  ·exact Pk h
 ·exact Pk h
theorem Ams{F:Fs}(hF:Jv F){g:Tup 43}{s:See}{ms:Int}{x:Hea}{y:Sky}:Ju (Jc F g s ms x y).1:=by
 unfold Jc
 split<;>exact Amr hF (hF.move _ _)
theorem Pm{F:Fs}(hF:Jv F){c:Cra}{s:See}{x:Hea}{y:Sky}(h:Ju (cGues c)):Ju (planW F c s x y).2:=by
 unfold planW
 split
 ·exact Mg
 ·split
  ·exact h
  ·unfold Qo
   split
   ·exact Mg
   ·exact hF.start _ _
theorem Amt{F:Fs}(hF:Jv F){c:Cra}(ha:AkI (GY c))(h:Ju (cGues c))(t:Int)(b:ByteArray):Ju (cGues (Dk F c t b).1):=by
 cases hs:JQ c t
 ·obtain⟨e,_,_⟩:=Rx hF.is hs b
  rw[e]
  have hg:cGues (takeW F c t b).1=cGues c:=(Rw hF.is c ha t b).1.gue
  unfold JK
  generalize takeW F c t b=T at hg ⊢
  obtain⟨c1,x⟩:=T
  dsimp only at hg ⊢
  have h1:Ju (cGues c1):=by rw[hg];exact h
  have h2:Ju (cGues (setDri c1 (driftW F c1.2.2.2.2.2.2.1 x))):=h1
  generalize setDri c1 (driftW F c1.2.2.2.2.2.2.1 x)=c2 at h2 ⊢
  unfold goW
  split
  ·split
   ·exact Pm hF (c:=setGue c2 (Jc F c2.2.2.2.2.2.2.2.1 (FK F c2 t x (skyW F c2 t)) (IntKind.i64.wrap (t-c2.2.1)) x (skyW F c2 t)).1) (Ams hF)
   ·exact Pm hF h2
  ·exact Pm hF h2
 ·rw[Jt hF.is hs b]
  exact h
structure RF(s:Cra×ByteArray):Prop where
 inv:Md s.1
 gue:Ju (cGues s.1)
 left:s.1.2.2.1.size<=68
 wait:s.2.size<=2000
theorem RF.zero:RF (zeroCra,noBytes):=⟨Md.zero,Mg,by show(0:Nat)<=68;decide,by show(0:Nat)<=2000;decide⟩
theorem RF.step{F:Fs}(hF:Jv F){s:Cra×ByteArray}(h:RF s)(t:Int):RF ((Dk F s.1 t s.2).1,noBytes):=by
 refine⟨?_,Amt hF h.inv.ak h.gue t s.2,?_,by show(0:Nat)<=2000;decide⟩
 ·cases hs:JQ s.1 t
  ·exact(Awd hF.is h.inv s.2 hs).1.inv
  ·rw[Jt hF.is hs]
   exact h.inv
 ·cases hs:JQ s.1 t
  ·show(Dk F s.1 t s.2).1.2.2.1.size<=68
   rw[(Awd hF.is h.inv s.2 hs).1.left]
   exact RA _
  ·rw[Jt hF.is hs]
   exact h.left
end Go.Proofs.YtgmpfeaanjnhaaaGreatDoor
