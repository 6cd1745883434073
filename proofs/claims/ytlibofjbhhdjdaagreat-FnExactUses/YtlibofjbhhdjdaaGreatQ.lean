import Derived.ArgAppend
import Derived.Below
import Derived.BigQuiet
import Derived.BigRegion
import Derived.ChangeOld
import Derived.Deep.DeepCutAuto
import Derived.Deep.Fields
import Derived.Deep.QuietTactic
import Derived.Deep.RegionHeld3
import Derived.Deep.RegionLaw
import Derived.Deep.RegionWith
import Derived.Deep.Slices
import Derived.Defers
import Derived.Laws.BytesString
import Derived.Laws.FloatArith
import Derived.Laws.NewFold
import Derived.Laws.OwnMore
import Derived.Maps.Own
import Derived.OpenShut
import Derived.OwnWalk
import Derived.ProofKit
import Derived.ShutString
import Derived.SizedLaws
import Derived.WalkKit
import Derived.WalkLawsBesides
import Derived.WalkSpells
import Derived.WideShapes
namespace Go.Proofs.YtlibofjbhhdjdaaGreat
variable {p : Prop}
theorem J1 (h:p:=by
 go_enter Tryz.func108,Tryz.ntmps108
 go_wp2_with fail
 have T0:Hid _:=st3 w 153 153 207 #[.int .i64 ka,.int .i64 na,.float .f64 fa,.string sa,.int .i64 ra] #[.int .i64 kb,.int .i64 nb,.float .f64 fb,.string sb,.int .i64 rb] #[.int .i64 0,.int .i64 0,.int .i64 0,.float .f64 0,.string {data:= #[]},.int .i64 0]
 generalize ((w.alloc (Obj.cells #[.int .i64 ka,.int .i64 na,.float .f64 fa,.string sa,.int .i64 ra] 153)).alloc (Obj.cells #[.int .i64 kb,.int .i64 nb,.float .f64 fb,.string sb,.int .i64 rb] 153)).alloc (Obj.cells #[.int .i64 0,.int .i64 0,.int .i64 0,.float .f64 0,.string {data:= #[]},.int .i64 0] 207)=w0' at*
 refine (valueOk_any ka na fa sa ra _).mono ?_
 rintro e w1 ⟨⟨xa,rfl,hxa⟩,o1⟩
 have T1:Hid _:=on3 T0.out o1
 clear o1
 have HXa:Hid _:=hxa
 clear hxa
 have ac0:=Blk.at_ T1.out.2.1 0 rfl
 have ac1:=Blk.at_ T1.out.2.1 1 rfl
 have ac2:=Blk.at_ T1.out.2.1 2 rfl
 have ac3:=Blk.at_ T1.out.2.1 3 rfl
 have ac4:=Blk.at_ T1.out.2.1 4 rfl
 have az:=Blk.lt T1.out.2.1
 have bc0:=Blk.at_ T1.out.2.2.1 0 rfl
 have bc1:=Blk.at_ T1.out.2.2.1 1 rfl
 have bc2:=Blk.at_ T1.out.2.2.1 2 rfl
 have bc3:=Blk.at_ T1.out.2.2.1 3 rfl
 have bc4:=Blk.at_ T1.out.2.2.1 4 rfl
 have bz:=Blk.lt T1.out.2.2.1
 cases xa
 ·exact J219
 have sza:sa.size<=4000:=HXa.out rfl
 go_wp2_with fail
 clear ac0 ac1 ac2 ac3 ac4 bc0 bc1 bc2 bc3 bc4 az bz
 refine (valueOk_any kb nb fb sb rb _).mono ?_
 rintro e w2 ⟨⟨xb,rfl,hxb⟩,o2⟩
 have T2:Hid _:=on3 T1.out o2
 clear o2
 have HXb:Hid _:=hxb
 clear hxb
 have ac0:=Blk.at_ T2.out.2.1 0 rfl
 have ac1:=Blk.at_ T2.out.2.1 1 rfl
 have ac2:=Blk.at_ T2.out.2.1 2 rfl
 have ac3:=Blk.at_ T2.out.2.1 3 rfl
 have ac4:=Blk.at_ T2.out.2.1 4 rfl
 have az:=Blk.lt T2.out.2.1
 have bc0:=Blk.at_ T2.out.2.2.1 0 rfl
 have bc1:=Blk.at_ T2.out.2.2.1 1 rfl
 have bc2:=Blk.at_ T2.out.2.2.1 2 rfl
 have bc3:=Blk.at_ T2.out.2.2.1 3 rfl
 have bc4:=Blk.at_ T2.out.2.2.1 4 rfl
 have bz:=Blk.lt T2.out.2.2.1
 cases xb
 ·exact J235
 have szb:sb.size<=4000:=HXb.out rfl
 go_wp2_with fail
 clear ac0 ac1 ac2 ac3 ac4 bc0 bc1 bc2 bc3 bc4 az bz
 refine (l1num_any ka na fa sa ra _).mono ?_
 rintro e w3 ⟨rfl,o3⟩
 have T3:Hid _:=on3 T2.out o3
 clear o3
 have ac0:=Blk.at_ T3.out.2.1 0 rfl
 have ac1:=Blk.at_ T3.out.2.1 1 rfl
 have ac2:=Blk.at_ T3.out.2.1 2 rfl
 have ac3:=Blk.at_ T3.out.2.1 3 rfl
 have ac4:=Blk.at_ T3.out.2.1 4 rfl
 have az:=Blk.lt T3.out.2.1
 have bc0:=Blk.at_ T3.out.2.2.1 0 rfl
 have bc1:=Blk.at_ T3.out.2.2.1 1 rfl
 have bc2:=Blk.at_ T3.out.2.2.1 2 rfl
 have bc3:=Blk.at_ T3.out.2.2.1 3 rfl
 have bc4:=Blk.at_ T3.out.2.2.1 4 rfl
 have bz:=Blk.lt T3.out.2.2.1
 go_wp2_with fail
 clear ac0 ac1 ac2 ac3 ac4 bc0 bc1 bc2 bc3 bc4 az bz
 refine (l1num_any kb nb fb sb rb _).mono ?_
 rintro e w4 ⟨rfl,o4⟩
 have T4:Hid _:=on3 T3.out o4
 clear o4
 have ac0:=Blk.at_ T4.out.2.1 0 rfl
 have ac1:=Blk.at_ T4.out.2.1 1 rfl
 have ac2:=Blk.at_ T4.out.2.1 2 rfl
 have ac3:=Blk.at_ T4.out.2.1 3 rfl
 have ac4:=Blk.at_ T4.out.2.1 4 rfl
 have az:=Blk.lt T4.out.2.1
 have bc0:=Blk.at_ T4.out.2.2.1 0 rfl
 have bc1:=Blk.at_ T4.out.2.2.1 1 rfl
 have bc2:=Blk.at_ T4.out.2.2.1 2 rfl
 have bc3:=Blk.at_ T4.out.2.2.1 3 rfl
 have bc4:=Blk.at_ T4.out.2.2.1 4 rfl
 have bz:=Blk.lt T4.out.2.2.1
 go_upto_region 24 with (fail)
 have TT:Hid (Onw w w4.drew/\Blk w4.drew w.heap.size 153 #[.int .i64 ka,.int .i64 na,.float .f64 fa,.string sa,.int .i64 ra]/\Blk w4.drew (w.heap.size+1) 153 #[.int .i64 kb,.int .i64 nb,.float .f64 fb,.string sb,.int .i64 rb]/\Blk w4.drew (w.heap.size+2) 207 #[.int .i64 0,.int .i64 0,.int .i64 0,.float .f64 0,.string {data:= #[]},.int .i64 0]):=⟨Onw.trans T4.out.1 (Below.drew (Onw.refl _)),Blk.onw (Below.drew (Onw.refl _)) T4.out.2.1,Blk.onw (Below.drew (Onw.refl _)) T4.out.2.2.1,Blk.onw (Below.drew (Onw.refl _)) T4.out.2.2.2⟩
 have z01:w.heap.size≠w.heap.size+1:=by omega
 have z02:w.heap.size≠w.heap.size+2:=by omega
 have z12:w.heap.size+1≠w.heap.size+1+1:=by omega
 have z03:w.heap.size≠w.heap.size+1+1:=by omega
 have z30:w.heap.size+1+1≠w.heap.size:=by omega
 go_region_held3 (fun (w':World)=>w'.cell? ⟨w.heap.size,0,none⟩=some (.int .i64 ka)/\w'.cell? ⟨w.heap.size,1,none⟩=some (.int .i64 na)/\w'.cell? ⟨w.heap.size,2,none⟩=some (.float .f64 fa)/\w'.cell? ⟨w.heap.size,3,none⟩=some (.string sa)/\w'.cell? ⟨w.heap.size,4,none⟩=some (.int .i64 ra)/\w'.cell? ⟨w.heap.size+1,0,none⟩=some (.int .i64 kb)/\w'.cell? ⟨w.heap.size+1,1,none⟩=some (.int .i64 nb)/\w'.cell? ⟨w.heap.size+1,2,none⟩=some (.float .f64 fb)/\w'.cell? ⟨w.heap.size+1,3,none⟩=some (.string sb)/\w'.cell? ⟨w.heap.size+1,4,none⟩=some (.int .i64 rb))
  (first
   |with_reducible exact KE.out
   |go_keep)
  (first
   |(go_at_call_of 127 sa;refine (l1asflt_any ka na fa sa ra _).mono ?_;rintro e wp ⟨⟨xa,rfl⟩,oo⟩;replace TT:Hid (Onw w wp/\Blk wp w.heap.size 153 #[.int .i64 ka,.int .i64 na,.float .f64 fa,.string sa,.int .i64 ra]/\Blk wp (w.heap.size+1) 153 #[.int .i64 kb,.int .i64 nb,.float .f64 fb,.string sb,.int .i64 rb]/\Blk wp (w.heap.size+2) 207 #[.int .i64 0,.int .i64 0,.int .i64 0,.float .f64 0,.string {data:= #[]},.int .i64 0]):=⟨Onw.trans TT.out.1 oo,Blk.onw oo TT.out.2.1,Blk.onw oo TT.out.2.2.1,Blk.onw oo TT.out.2.2.2⟩;have KE:Hid (wp.cell? ⟨w.heap.size,0,none⟩=some (.int .i64 ka)/\wp.cell? ⟨w.heap.size,1,none⟩=some (.int .i64 na)/\wp.cell? ⟨w.heap.size,2,none⟩=some (.float .f64 fa)/\wp.cell? ⟨w.heap.size,3,none⟩=some (.string sa)/\wp.cell? ⟨w.heap.size,4,none⟩=some (.int .i64 ra)/\wp.cell? ⟨w.heap.size+1,0,none⟩=some (.int .i64 kb)/\wp.cell? ⟨w.heap.size+1,1,none⟩=some (.int .i64 nb)/\wp.cell? ⟨w.heap.size+1,2,none⟩=some (.float .f64 fb)/\wp.cell? ⟨w.heap.size+1,3,none⟩=some (.string sb)/\wp.cell? ⟨w.heap.size+1,4,none⟩=some (.int .i64 rb)):=⟨(Blk.cell TT.out.2.1 0).trans rfl,(Blk.cell TT.out.2.1 1).trans rfl,(Blk.cell TT.out.2.1 2).trans rfl,(Blk.cell TT.out.2.1 3).trans rfl,(Blk.cell TT.out.2.1 4).trans rfl,(Blk.cell TT.out.2.2.1 0).trans rfl,(Blk.cell TT.out.2.2.1 1).trans rfl,(Blk.cell TT.out.2.2.1 2).trans rfl,(Blk.cell TT.out.2.2.1 3).trans rfl,(Blk.cell TT.out.2.2.1 4).trans rfl⟩;clear oo)
   |(go_at_call_of 127 sb;refine (l1asflt_any kb nb fb sb rb _).mono ?_;rintro e wq ⟨⟨xb,rfl⟩,oo⟩;replace TT:Hid (Onw w wq/\Blk wq w.heap.size 153 #[.int .i64 ka,.int .i64 na,.float .f64 fa,.string sa,.int .i64 ra]/\Blk wq (w.heap.size+1) 153 #[.int .i64 kb,.int .i64 nb,.float .f64 fb,.string sb,.int .i64 rb]/\Blk wq (w.heap.size+2) 207 #[.int .i64 0,.int .i64 0,.int .i64 0,.float .f64 0,.string {data:= #[]},.int .i64 0]):=⟨Onw.trans TT.out.1 oo,Blk.onw oo TT.out.2.1,Blk.onw oo TT.out.2.2.1,Blk.onw oo TT.out.2.2.2⟩;have KE:Hid (wq.cell? ⟨w.heap.size,0,none⟩=some (.int .i64 ka)/\wq.cell? ⟨w.heap.size,1,none⟩=some (.int .i64 na)/\wq.cell? ⟨w.heap.size,2,none⟩=some (.float .f64 fa)/\wq.cell? ⟨w.heap.size,3,none⟩=some (.string sa)/\wq.cell? ⟨w.heap.size,4,none⟩=some (.int .i64 ra)/\wq.cell? ⟨w.heap.size+1,0,none⟩=some (.int .i64 kb)/\wq.cell? ⟨w.heap.size+1,1,none⟩=some (.int .i64 nb)/\wq.cell? ⟨w.heap.size+1,2,none⟩=some (.float .f64 fb)/\wq.cell? ⟨w.heap.size+1,3,none⟩=some (.string sb)/\wq.cell? ⟨w.heap.size+1,4,none⟩=some (.int .i64 rb)):=⟨(Blk.cell TT.out.2.1 0).trans rfl,(Blk.cell TT.out.2.1 1).trans rfl,(Blk.cell TT.out.2.1 2).trans rfl,(Blk.cell TT.out.2.1 3).trans rfl,(Blk.cell TT.out.2.1 4).trans rfl,(Blk.cell TT.out.2.2.1 0).trans rfl,(Blk.cell TT.out.2.2.1 1).trans rfl,(Blk.cell TT.out.2.2.1 2).trans rfl,(Blk.cell TT.out.2.2.1 3).trans rfl,(Blk.cell TT.out.2.2.1 4).trans rfl⟩;clear oo)
   |(go_at_call 126;refine (l1floats_any op xa xb _).mono ?_;rintro e wf ⟨⟨_,rfl,c9,k9,n9,f9,s9,r9,rfl,v9⟩,oo⟩;replace TT:Hid (Onw w wf/\Blk wf w.heap.size 153 #[.int .i64 ka,.int .i64 na,.float .f64 fa,.string sa,.int .i64 ra]/\Blk wf (w.heap.size+1) 153 #[.int .i64 kb,.int .i64 nb,.float .f64 fb,.string sb,.int .i64 rb]/\Blk wf (w.heap.size+2) 207 #[.int .i64 0,.int .i64 0,.int .i64 0,.float .f64 0,.string {data:= #[]},.int .i64 0]):=⟨Onw.trans TT.out.1 oo,Blk.onw oo TT.out.2.1,Blk.onw oo TT.out.2.2.1,Blk.onw oo TT.out.2.2.2⟩;have KE:Hid (wf.cell? ⟨w.heap.size,0,none⟩=some (.int .i64 ka)/\wf.cell? ⟨w.heap.size,1,none⟩=some (.int .i64 na)/\wf.cell? ⟨w.heap.size,2,none⟩=some (.float .f64 fa)/\wf.cell? ⟨w.heap.size,3,none⟩=some (.string sa)/\wf.cell? ⟨w.heap.size,4,none⟩=some (.int .i64 ra)/\wf.cell? ⟨w.heap.size+1,0,none⟩=some (.int .i64 kb)/\wf.cell? ⟨w.heap.size+1,1,none⟩=some (.int .i64 nb)/\wf.cell? ⟨w.heap.size+1,2,none⟩=some (.float .f64 fb)/\wf.cell? ⟨w.heap.size+1,3,none⟩=some (.string sb)/\wf.cell? ⟨w.heap.size+1,4,none⟩=some (.int .i64 rb)):=⟨(Blk.cell TT.out.2.1 0).trans rfl,(Blk.cell TT.out.2.1 1).trans rfl,(Blk.cell TT.out.2.1 2).trans rfl,(Blk.cell TT.out.2.1 3).trans rfl,(Blk.cell TT.out.2.1 4).trans rfl,(Blk.cell TT.out.2.2.1 0).trans rfl,(Blk.cell TT.out.2.2.1 1).trans rfl,(Blk.cell TT.out.2.2.1 2).trans rfl,(Blk.cell TT.out.2.2.1 3).trans rfl,(Blk.cell TT.out.2.2.1 4).trans rfl⟩;have V9:Hid _:=v9;have y0:wf.cell? ⟨w.heap.size+2,0,none⟩=some (.int .i64 0):=(Blk.cell TT.out.2.2.2 0).trans rfl;have y1:wf.cell? ⟨w.heap.size+2,1,none⟩=some (.int .i64 0):=(Blk.cell TT.out.2.2.2 1).trans rfl;have y2:wf.cell? ⟨w.heap.size+2,2,none⟩=some (.int .i64 0):=(Blk.cell TT.out.2.2.2 2).trans rfl;have y3:wf.cell? ⟨w.heap.size+2,3,none⟩=some (.float .f64 0):=(Blk.cell TT.out.2.2.2 3).trans rfl;have y4:wf.cell? ⟨w.heap.size+2,4,none⟩=some (.string {data:= #[]}):=(Blk.cell TT.out.2.2.2 4).trans rfl;have y5:wf.cell? ⟨w.heap.size+2,5,none⟩=some (.int .i64 0):=(Blk.cell TT.out.2.2.2 5).trans rfl;have yf:=Blk.free TT.out.2.2.2;have yz:=Blk.lt TT.out.2.2.2;clear v9;clear oo))
 all_goals
  go_wp2_with fail
  exact bodyPost_ret (v:= .agg #[.int .i64 c9,.int .i64 k9,.int .i64 n9,.float .f64 f9,.string s9,.int .i64 r9]) (by simp[results,Tryz.results108,go_sem,y0,y1,y2,y3,y4,y5]) rfl ⟨⟨_,rfl,_,_,_,_,_,_,rfl,V9.out⟩,bset (bset (bset (bset (bset (bset (TT.out.1) (by omega) _) (by omega) _) (by omega) _) (by omega) _) (by omega) _) (by omega) _⟩):p:=h
theorem J2 (h:p:=by
 go_ret
 exact ⟨rtb (by first|rfl|exact beq_false_of_ne (by assumption)|exact beq_false_of_ne (by omega)|exact decide_eq_false (by omega)|(show _=true;simp;done)|(show _=true;simp;omega)|(show _=false;simp;done)|(show _=false;simp;omega)),ob⟩):p:=h
theorem J3 (h:p:=by exact J235):p:=h
theorem J4 (h:p:=by
 go_wp2_with fail
 go_ret
 exact ⟨rtb (by first|rfl|(rw[h0];rfl)|(rw[h0,h1];rfl)|(rw[h0,h1,h2];rfl)|(rw[h0,h1,h2,h3];rfl)|(rw[h0,h9];rfl)|(simp[*];done)|(simp_all;done)),O⟩):p:=h
theorem J5 (h:p:=by exact J219):p:=h
theorem J6 (h:p:=by
 go_enter Tryz.func123,Tryz.ntmps123
 go_wp2_with fail
 have T0:Hid (TwoV w _ #[.int .i64 ka,.int .i64 na,.float .f64 fa,.string sa,.int .i64 ra] #[.int .i64 kb,.int .i64 nb,.float .f64 fb,.string sb,.int .i64 rb]):=TwoV.start w _ _
 generalize (w.alloc (Obj.cells #[.int .i64 ka,.int .i64 na,.float .f64 fa,.string sa,.int .i64 ra] 153)).alloc (Obj.cells #[.int .i64 kb,.int .i64 nb,.float .f64 fb,.string sb,.int .i64 rb] 153)=w0' at*
 refine (valueOk_any ka na fa sa ra _).mono ?_
 rintro e w1 ⟨⟨x,rfl,hx⟩,o1⟩
 have T1:Hid _:=T0.out.onw o1
 clear o1
 have ac0:=Blk.at_ T1.out.a 0 rfl
 have bc0:=Blk.at_ T1.out.b 0 rfl
 have ac1:=Blk.at_ T1.out.a 1 rfl
 have bc1:=Blk.at_ T1.out.b 1 rfl
 have ac2:=Blk.at_ T1.out.a 2 rfl
 have bc2:=Blk.at_ T1.out.b 2 rfl
 have ac3:=Blk.at_ T1.out.a 3 rfl
 have bc3:=Blk.at_ T1.out.b 3 rfl
 have ac4:=Blk.at_ T1.out.a 4 rfl
 have bc4:=Blk.at_ T1.out.b 4 rfl
 have az:=Blk.lt T1.out.a
 have bz:=Blk.lt T1.out.b
 have HX:Hid _:=hx
 clear hx
 cases x
 ·exact J236
 have sa1:sa.size<=4000:=HX.out rfl
 go_wp2_with fail
 clear ac0 bc0 ac1 bc1 ac2 bc2 ac3 bc3 ac4 bc4 az bz
 refine (valueOk_any kb nb fb sb rb _).mono ?_
 rintro e w2 ⟨⟨y,rfl,hy⟩,o2⟩
 have T2:Hid _:=T1.out.onw o2
 clear o2
 have ac0:=Blk.at_ T2.out.a 0 rfl
 have bc0:=Blk.at_ T2.out.b 0 rfl
 have ac1:=Blk.at_ T2.out.a 1 rfl
 have bc1:=Blk.at_ T2.out.b 1 rfl
 have ac2:=Blk.at_ T2.out.a 2 rfl
 have bc2:=Blk.at_ T2.out.b 2 rfl
 have ac3:=Blk.at_ T2.out.a 3 rfl
 have bc3:=Blk.at_ T2.out.b 3 rfl
 have ac4:=Blk.at_ T2.out.a 4 rfl
 have bc4:=Blk.at_ T2.out.b 4 rfl
 have az:=Blk.lt T2.out.a
 have bz:=Blk.lt T2.out.b
 have HY:Hid _:=hy
 clear hy
 cases y
 ·exact J237
 have sb1:sb.size<=4000:=HY.out rfl
 go_wp2_with fail
 clear ac0 bc0 ac1 bc1 ac2 bc2 ac3 bc3 ac4 bc4 az bz
 refine (l1num_any ka na fa sa ra _).mono ?_
 rintro e w3 ⟨rfl,o3⟩
 have T3:Hid _:=T2.out.onw o3
 clear o3
 have ac0:=Blk.at_ T3.out.a 0 rfl
 have bc0:=Blk.at_ T3.out.b 0 rfl
 have ac1:=Blk.at_ T3.out.a 1 rfl
 have bc1:=Blk.at_ T3.out.b 1 rfl
 have ac2:=Blk.at_ T3.out.a 2 rfl
 have bc2:=Blk.at_ T3.out.b 2 rfl
 have ac3:=Blk.at_ T3.out.a 3 rfl
 have bc3:=Blk.at_ T3.out.b 3 rfl
 have ac4:=Blk.at_ T3.out.a 4 rfl
 have bc4:=Blk.at_ T3.out.b 4 rfl
 have az:=Blk.lt T3.out.a
 have bz:=Blk.lt T3.out.b
 exact J246):p:=h
theorem J7 (h:p:=by
 refine AllReadyH.cons rfl (fun K hK=>?_) ?_
 ·simp only[gA,gB,gC]
  go_simp
  refine hK.out _ _ (by go_keep) (fun hHeld=>?_)
  clear hK K
  try simp only[gA,gB,gC,Act.put,gD,gE,gF]
  obtain ⟨ol,r2a,r2b,r2c⟩:=LK.out
  have RA:Hid _:=r2a
  have RB:Hid _:=r2b
  have RC:Hid _:=r2c
  have hxo:=r2a.row
  rw[r2b] at hxo
  clear r2a r2b r2c
  have N:=Blk.new w8 3 #[.int .i64 qr]
  have zf:=SK.out.fr.size
  have zn:=Blk.lt SK.out.nb
  refine rd [11] ?_
  refine AllReadyH.cons rfl (fun K hK=>?_) ?_
  ·refine step_app (by rfl) (.tmp 195) (.tmp 204) 64 (by rfl) (w.heap.size+2) 3 i2 _ 1 8 Tryz.underlying64 hi2 hy0 hy1 hy2 rfl (by decide) (.slice (some ⟨k6,0,none⟩) 2 2) 2 ol.flatten (by rfl) (World.ownsRow.alloc hxo _) ⟨w8.heap.size,0,none⟩ 1 1 [.int .i64 qr] (by rfl) (by rfl) (fun j u hj=>by rw[Go.WideShapes.add_plain];exact (Blk.cell N (0+j)).trans (by rw[Nat.zero_add];simpa using hj)) (by simp[Value.oneCell']) (by decide) (by simp only[maxLen];omega) (by omega) (by simp;omega) ?_
   intro g10 cap10 w10 hown hgrow hwhere
   obtain ⟨ap1,ap2⟩:=SK.out.app RA.out RB.out RC.out (Onw.alloc _ _) hown hgrow hwhere
   have n72:=Blk.at_ ap1.nb 7 rfl
   have nf2:=Blk.free ap1.nb
   have nz2:=Blk.lt ap1.nb
   have kp2:=Blk.at_ ap1.pb 9 rfl
   have ky2:w10.cell? ⟨eb,eo+2,none⟩=some (.int .i64 a2):=con ap1.ws.wk.ov Y2.out
   have zkp2:=clt kp2
   have zky2:=clt ky2
   have sm:=ap1.setN 7 (.slice (some ⟨g10,0,none⟩) 3 cap10)
   simp only[List.setIfInBounds_toArray,List.set_cons_zero,List.set_cons_succ] at sm
   have SM:Hid _:=sm
   clear ap1 ap2 hown hgrow hwhere sm n7 nz p9 pz y2 zy2 n78 nz8 v0 zv kp ky zkp zky N zf zn hxo
   refine hK.out _ _ ⟨kp2,ky2⟩ (fun hHeld=>?_)
   clear hK K
   try simp only[gA,gB,gC,Act.put,gD,gE,gF]
   refine tk 12 ?_
   refine rd [13] ?_
   refine AllReadyH.cons rfl (fun K hK=>?_) ?_
   ·simp only[gA,gB,gC]
    go_simp
    refine hK.out _ _ (by exact ⟨(Blk.cell SM.out.pb 9).trans rfl,con SM.out.ws.wk.ov Y2.out⟩) (fun hHeld=>?_)
    clear hK K
    try simp only[gA,gB,gC,Act.put,gD,gE,gF]
    refine wpAnyH_done (by kernel_rfl) ?_ _
    clear n72 nf2 nz2 kp2 ky2 zkp2 zky2 hHeld
    generalize w10.setCell ⟨w.heap.size+1,7,none⟩ (.slice (some ⟨g10,0,none⟩) 3 cap10)=wM at*
    have q0:=Blk.at_ SM.out.nb 0 rfl
    have q1:=Blk.at_ SM.out.nb 1 rfl
    have q2:=Blk.at_ SM.out.nb 2 rfl
    have q3:=Blk.at_ SM.out.nb 3 rfl
    have q4:=Blk.at_ SM.out.nb 4 rfl
    have q5:=Blk.at_ SM.out.nb 5 rfl
    have q6:=Blk.at_ SM.out.nb 6 rfl
    have q7:=Blk.at_ SM.out.nb 7 rfl
    have qf:=Blk.free SM.out.nb
    have qz:=Blk.lt SM.out.nb
    go_wp2_with fail
    refine (add_ws SM.out.ws (by omega) SM.out.len ⟨⟨5,(pm i).line,0,0,0,{data:= #[]},0,fun _=>0,3,fun _=>0⟩,none,0,some ⟨g10,0,none⟩,cap10⟩).mono ?_
    rintro e w9 ⟨r,hr,rfl,hp⟩
    have FIN:Hid _:=SM.out.fin (r:=r) hp (B2:=B+4000*sz i) (by omega) (Q:=fun s'=>Rel (pdOf pm) FX l (lp l) (rs l) i s s'/\Adds s s' l) ⟨by refine relC.if_ HKK.out (c:=cv) (by rw[show (pdOf pm i).kd 0=(a0:Int) from A0.out];exact Q4.out.1) ?_;rw[show (pdOf pm i).kd 0=(a0:Int) from A0.out,<-Q4.out.2];show SeqR _ _ _ _ _ (pm i).kd (pm i).nk _ _;rw[HNK.out];exact relC.ssnoc (relC.ssnoc (relC.ssnoc relC.snil (by rw[A0.out];exact Q5.out)) (by rw[A1.out];exact Q6.out)) (by rw[A2.out];exact Q8.out),E8.out⟩
    clear hp
    exact J224
   exact AllReadyH.nil
  exact AllReadyH.nil
 exact AllReadyH.nil):p:=h
theorem J8 (h:p:=by
 obtain ⟨eb,eo,heb,hec⟩:=(ha.2 i hi).2 (by omega)
 rw[heb] at c9
 have Y0:Hid (w0.cell? ⟨eb,eo+0,none⟩=some (.int .i64 a0)):=by have:=hec 0 (by omega);rw[ha0] at this;exact this
 have Y1:Hid (w0.cell? ⟨eb,eo+1,none⟩=some (.int .i64 a1)):=by have:=hec 1 (by omega);rw[ha1] at this;exact this
 rw[hnk] at c9
 have hf0:Hid _:=hf
 have hf1:Hid _:=hf'
 clear hf hf' hec ha0 ha1 hnk heb
 clear h hs hsf ha hpc htv hpa hk
 go_enter Tryz.func83,Tryz.ntmps83
 go_upto_region 34 with (fail)
 have F0:Hid (Fx w _ #[.int .i64 (pm i).kind,.int .i64 (pm i).frm,.int .i64 (pm i).tto,.int .i64 (pm i).line,.int .i64 (pm i).op,.int .i64 (pm i).num,.float .f64 (pm i).flt,.string (pm i).text,.slice (pm i).na (pm i).nn (pm i).nc,.slice (some ⟨eb,eo,none⟩) 2 (pm i).kc] #[.int .i64 i,.int .i64 1,.int .i64 0,.int .i64 0,.float .f64 0,.string {data:= #[]},.int .i64 0] #[.int .i64 i,.int .i64 0,.int .i64 0,.int .i64 0,.float .f64 0,.string {data:= #[]},.int .i64 0]):=Fx.start w _ _ _
 generalize (((w.alloc (Obj.cells #[.int .i64 0,.int .i64 0,.int .i64 0,.int .i64 0,.float .f64 0,.string {data:= #[]},.int .i64 0] 157)).alloc (Obj.cells #[.int .i64 (pm i).kind,.int .i64 (pm i).frm,.int .i64 (pm i).tto,.int .i64 (pm i).line,.int .i64 (pm i).op,.int .i64 (pm i).num,.float .f64 (pm i).flt,.string (pm i).text,.slice (pm i).na (pm i).nn (pm i).nc,.slice (some ⟨eb,eo,none⟩) 2 (pm i).kc] 67)).alloc (Obj.cells #[.int .i64 i,.int .i64 1,.int .i64 0,.int .i64 0,.float .f64 0,.string {data:= #[]},.int .i64 0] 157)).alloc (Obj.cells #[.int .i64 i,.int .i64 0,.int .i64 0,.int .i64 0,.float .f64 0,.string {data:= #[]},.int .i64 0] 157)=wF at*
 clear zc b0 zb c0 c1 c2 c3 c4 c5 c6 c7 c8 c9
 have p9:=Blk.at_ F0.out.pb 9 rfl
 have pz:=Blk.lt F0.out.pb
 have yk:wF.cell? ⟨eb,eo,none⟩=some (.int .i64 a0):=con (HH.out.wk.ov.trans F0.out.o) Y0.out
 have zyk:=clt yk
 go_wp2_with fail
 clear p9 pz yk zyk
 refine (hf0.out _ own V R B lp rs s l (HH.out.onw F0.out.o) HS.out HSF.out hB).mono ?_
 rintro e v0 ⟨⟨x0,rfl,vk0⟩,o0⟩
 have VK0:Hid _:=vk0
 have F1:Hid _:=(F0.out.onw o0).onw (Onw.alloc v0 (.cells #[.int .i64 a0,.int .i64 x0.code,.int .i64 x0.kind,.int .i64 x0.num,.float .f64 x0.flt,.string x0.str,.int .i64 x0.ref] 157))
 have X0:Hid (Blk (v0.alloc (.cells #[.int .i64 a0,.int .i64 x0.code,.int .i64 x0.kind,.int .i64 x0.num,.float .f64 x0.flt,.string x0.str,.int .i64 x0.ref] 157)) v0.heap.size 157 #[.int .i64 a0,.int .i64 x0.code,.int .i64 x0.kind,.int .i64 x0.num,.float .f64 x0.flt,.string x0.str,.int .i64 x0.ref]):=Blk.new _ _ _
 have z0:w.heap.size+3 < v0.heap.size:=(F0.out.onw o0).gb.lt
 clear vk0 o0
 go_upto_region 35 with (fail)
 generalize v0.alloc (.cells #[.int .i64 a0,.int .i64 x0.code,.int .i64 x0.kind,.int .i64 x0.num,.float .f64 x0.flt,.string x0.str,.int .i64 x0.ref] 157)=wX at*
 generalize v0.heap.size=kx at*
 have p9:=Blk.at_ F1.out.pb 9 rfl
 have pz:=Blk.lt F1.out.pb
 have yk:wX.cell? ⟨eb,eo+1,none⟩=some (.int .i64 a1):=con (HH.out.wk.ov.trans F1.out.o) Y1.out
 have zyk:=clt yk
 go_wp2_with fail
 clear p9 pz yk zyk
 refine (hf1.out _ own V R B lp rs s l (HH.out.onw F1.out.o) HS.out HSF.out hB).mono ?_
 rintro e v1 ⟨⟨x1,rfl,vk1⟩,o1⟩
 have VK1:Hid _:=vk1
 have F2:Hid _:=(F1.out.onw o1).onw (Onw.alloc v1 (.cells #[.int .i64 a1,.int .i64 x1.code,.int .i64 x1.kind,.int .i64 x1.num,.float .f64 x1.flt,.string x1.str,.int .i64 x1.ref] 157))
 have X1:Hid (Blk (v1.alloc (.cells #[.int .i64 a1,.int .i64 x1.code,.int .i64 x1.kind,.int .i64 x1.num,.float .f64 x1.flt,.string x1.str,.int .i64 x1.ref] 157)) v1.heap.size 157 #[.int .i64 a1,.int .i64 x1.code,.int .i64 x1.kind,.int .i64 x1.num,.float .f64 x1.flt,.string x1.str,.int .i64 x1.ref]):=Blk.new _ _ _
 have z1:w.heap.size+3 < v1.heap.size:=(F1.out.onw o1).gb.lt
 have X0':Hid _:=Blk.onw (Onw.trans o1 (Onw.alloc v1 (.cells #[.int .i64 a1,.int .i64 x1.code,.int .i64 x1.kind,.int .i64 x1.num,.float .f64 x1.flt,.string x1.str,.int .i64 x1.ref] 157))) X0.out
 have zzX0:Hid _:=Nat.lt_of_lt_of_le X0.out.lt o1.size
 clear vk1 o1
 go_upto_region 36 with (fail)
 generalize v1.alloc (.cells #[.int .i64 a1,.int .i64 x1.code,.int .i64 x1.kind,.int .i64 x1.num,.float .f64 x1.flt,.string x1.str,.int .i64 x1.ref] 157)=wY at*
 generalize v1.heap.size=ky at*
 have zxy:kx < ky:=zzX0.out
 have y0:=Blk.at_ F2.out.rb 0 rfl
 have y1:=Blk.at_ F2.out.rb 1 rfl
 have y2:=Blk.at_ F2.out.rb 2 rfl
 have y3:=Blk.at_ F2.out.rb 3 rfl
 have y4:=Blk.at_ F2.out.rb 4 rfl
 have y5:=Blk.at_ F2.out.rb 5 rfl
 have y6:=Blk.at_ F2.out.rb 6 rfl
 have yf:=Blk.free F2.out.rb
 have yz:=Blk.lt F2.out.rb
 have d0:=Blk.at_ F2.out.bb 0 rfl
 have d1:=Blk.at_ F2.out.bb 1 rfl
 have d2:=Blk.at_ F2.out.bb 2 rfl
 have d3:=Blk.at_ F2.out.bb 3 rfl
 have d4:=Blk.at_ F2.out.bb 4 rfl
 have d5:=Blk.at_ F2.out.bb 5 rfl
 have d6:=Blk.at_ F2.out.bb 6 rfl
 have df:=Blk.free F2.out.bb
 have dz:=Blk.lt F2.out.bb
 have g0:=Blk.at_ F2.out.gb 0 rfl
 have g1:=Blk.at_ F2.out.gb 1 rfl
 have g2:=Blk.at_ F2.out.gb 2 rfl
 have g3:=Blk.at_ F2.out.gb 3 rfl
 have g4:=Blk.at_ F2.out.gb 4 rfl
 have g5:=Blk.at_ F2.out.gb 5 rfl
 have g6:=Blk.at_ F2.out.gb 6 rfl
 have gf:=Blk.free F2.out.gb
 have gz:=Blk.lt F2.out.gb
 have q0:=Blk.at_ X0'.out 0 rfl
 have q1:=Blk.at_ X0'.out 1 rfl
 have q2:=Blk.at_ X0'.out 2 rfl
 have q3:=Blk.at_ X0'.out 3 rfl
 have q4:=Blk.at_ X0'.out 4 rfl
 have q5:=Blk.at_ X0'.out 5 rfl
 have q6:=Blk.at_ X0'.out 6 rfl
 have qz:=Blk.lt X0'.out
 have m0:=Blk.at_ X1.out 0 rfl
 have m1:=Blk.at_ X1.out 1 rfl
 have m2:=Blk.at_ X1.out 2 rfl
 have m3:=Blk.at_ X1.out 3 rfl
 have m4:=Blk.at_ X1.out 4 rfl
 have m5:=Blk.at_ X1.out 5 rfl
 have m6:=Blk.at_ X1.out 6 rfl
 have mz:=Blk.lt X1.out
 have n03:w.heap.size≠w.heap.size+3:=by omega
 have n30:w.heap.size+3≠w.heap.size:=by omega
 have ne0:kx≠w.heap.size:=by omega
 have ne1:kx≠w.heap.size+3:=by omega
 have ne2:ky≠w.heap.size:=by omega
 have ne3:ky≠w.heap.size+3:=by omega
 have ne4:w.heap.size+2≠w.heap.size:=by omega
 have ne5:w.heap.size+2≠w.heap.size+3:=by omega
 by_cases hx:x0.code=0
 rotate_left
 ·exact J222
 by_cases hy:x1.code=0
 rotate_left
 ·exact J222
 go_upto_region 39 with (fail)
 have f3:=(((((F2.out).setG 2 (.int .i64 x1.kind)).setG 3 (.int .i64 x1.num)).setG 4 (.float .f64 x1.flt)).setG 5 (.string x1.str)).setG 6 (.int .i64 x1.ref)
 simp only[List.setIfInBounds_toArray,List.set_cons_zero,List.set_cons_succ] at f3
 have F3:Hid _:=f3
 have X3:Hid _:=Blk.far (Blk.far (Blk.far (Blk.far (Blk.far (X0'.out) (show kx≠w.heap.size+3 by omega) 2 (.int .i64 x1.kind)) (show kx≠w.heap.size+3 by omega) 3 (.int .i64 x1.num)) (show kx≠w.heap.size+3 by omega) 4 (.float .f64 x1.flt)) (show kx≠w.heap.size+3 by omega) 5 (.string x1.str)) (show kx≠w.heap.size+3 by omega) 6 (.int .i64 x1.ref)
 clear f3 hx hy y0 y1 y2 y3 y4 y5 y6 d0 d1 d2 d3 d4 d5 d6 g0 g1 g2 g3 g4 g5 g6 yf yz df dz gf gz q0 q1 q2 q3 q4 q5 q6 m0 m1 m2 m3 m4 m5 m6 qz mz
 generalize (((((wY).setCell ⟨w.heap.size+3,2,none⟩ (.int .i64 x1.kind)).setCell ⟨w.heap.size+3,3,none⟩ (.int .i64 x1.num)).setCell ⟨w.heap.size+3,4,none⟩ (.float .f64 x1.flt)).setCell ⟨w.heap.size+3,5,none⟩ (.string x1.str)).setCell ⟨w.heap.size+3,6,none⟩ (.int .i64 x1.ref)=wG at*
 have q0:=Blk.at_ X3.out 0 rfl
 have q1:=Blk.at_ X3.out 1 rfl
 have q2:=Blk.at_ X3.out 2 rfl
 have q3:=Blk.at_ X3.out 3 rfl
 have q4:=Blk.at_ X3.out 4 rfl
 have q5:=Blk.at_ X3.out 5 rfl
 have q6:=Blk.at_ X3.out 6 rfl
 have qz:=Blk.lt X3.out
 have p0:=Blk.at_ F3.out.pb 0 rfl
 have pz:=Blk.lt F3.out.pb
 go_cut [160] (fun v wd=>(∃b:Bool,v= .bool b)/\Onw wG wd)
 case first=>
  go_region_held3 (fun (w':World)=>w'.cell? ⟨kx,2,none⟩=some (.int .i64 x0.kind)/\w'.cell? ⟨kx,3,none⟩=some (.int .i64 x0.num)/\w'.cell? ⟨kx,4,none⟩=some (.float .f64 x0.flt)/\w'.cell? ⟨kx,5,none⟩=some (.string x0.str)/\w'.cell? ⟨kx,6,none⟩=some (.int .i64 x0.ref)/\w'.cell? ⟨w.heap.size+1,0,none⟩=some (.int .i64 (pm i).kind))
   (first
    |with_reducible exact KE.out
    |go_keep)
   (first
    |(go_at_call 109;refine (truth_any x0.kind x0.num x0.flt x0.str x0.ref _).mono ?_;rintro e wt ⟨⟨tb,rfl⟩,oo⟩;have OT:Hid (Onw wG wt):=Onw.trans (Below.drew (Onw.refl _)) oo;have KE:Hid (wt.cell? ⟨kx,2,none⟩=some (.int .i64 x0.kind)/\wt.cell? ⟨kx,3,none⟩=some (.int .i64 x0.num)/\wt.cell? ⟨kx,4,none⟩=some (.float .f64 x0.flt)/\wt.cell? ⟨kx,5,none⟩=some (.string x0.str)/\wt.cell? ⟨kx,6,none⟩=some (.int .i64 x0.ref)/\wt.cell? ⟨w.heap.size+1,0,none⟩=some (.int .i64 (pm i).kind)):=⟨con OT.out q2,con OT.out q3,con OT.out q4,con OT.out q5,con OT.out q6,con OT.out p0⟩;clear oo))
  all_goals
   go_wp2_with fail
   go_meet
   case rel=>exact ⟨⟨_,rfl⟩,OT.out⟩
 case rest=>
  obtain ⟨⟨tb,rfl⟩,o4⟩:=hcut
  have F4:Hid _:=F3.out.onw o4
  have X4:Hid _:=Blk.onw o4 X3.out
  clear o4 p0 pz q0 q1 q2 q3 q4 q5 q6 qz
  obtain ⟨wH,hwH⟩:∃y,y=wc:=⟨_,rfl⟩
  subst hwH
  have y0:=Blk.at_ F4.out.rb 0 rfl
  have y1:=Blk.at_ F4.out.rb 1 rfl
  have y2:=Blk.at_ F4.out.rb 2 rfl
  have y3:=Blk.at_ F4.out.rb 3 rfl
  have y4:=Blk.at_ F4.out.rb 4 rfl
  have y5:=Blk.at_ F4.out.rb 5 rfl
  have y6:=Blk.at_ F4.out.rb 6 rfl
  have yf:=Blk.free F4.out.rb
  have yz:=Blk.lt F4.out.rb
  have d0:=Blk.at_ F4.out.bb 0 rfl
  have d1:=Blk.at_ F4.out.bb 1 rfl
  have d2:=Blk.at_ F4.out.bb 2 rfl
  have d3:=Blk.at_ F4.out.bb 3 rfl
  have d4:=Blk.at_ F4.out.bb 4 rfl
  have d5:=Blk.at_ F4.out.bb 5 rfl
  have d6:=Blk.at_ F4.out.bb 6 rfl
  have df:=Blk.free F4.out.bb
  have dz:=Blk.lt F4.out.bb
  have g0:=Blk.at_ F4.out.gb 0 rfl
  have g1:=Blk.at_ F4.out.gb 1 rfl
  have g2:=Blk.at_ F4.out.gb 2 rfl
  have g3:=Blk.at_ F4.out.gb 3 rfl
  have g4:=Blk.at_ F4.out.gb 4 rfl
  have g5:=Blk.at_ F4.out.gb 5 rfl
  have g6:=Blk.at_ F4.out.gb 6 rfl
  have gf:=Blk.free F4.out.gb
  have gz:=Blk.lt F4.out.gb
  have q0:=Blk.at_ X4.out 0 rfl
  have q1:=Blk.at_ X4.out 1 rfl
  have q2:=Blk.at_ X4.out 2 rfl
  have q3:=Blk.at_ X4.out 3 rfl
  have q4:=Blk.at_ X4.out 4 rfl
  have q5:=Blk.at_ X4.out 5 rfl
  have q6:=Blk.at_ X4.out 6 rfl
  have qz:=Blk.lt X4.out
  cases tb
  ·go_wp2_with fail
   exact bodyPost_ret (v:= .agg #[.int .i64 i,.int .i64 0,.int .i64 x1.kind,.int .i64 x1.num,.float .f64 x1.flt,.string x1.str,.int .i64 x1.ref]) (by simp[results,Tryz.results83,go_sem,y0,y1,y2,y3,y4,y5,y6]) rfl ⟨⟨⟨0,x1.kind,x1.num,x1.flt,x1.str,x1.ref⟩,rfl,VK1.out⟩,bset (bset (bset (bset (bset (bset (bset (F4.out.o) (by omega) _) (by omega) _) (by omega) _) (by omega) _) (by omega) _) (by omega) _) (by omega) _⟩
  ·go_wp2_with fail
   exact bodyPost_ret (v:= .agg #[.int .i64 i,.int .i64 0,.int .i64 x0.kind,.int .i64 x0.num,.float .f64 x0.flt,.string x0.str,.int .i64 x0.ref]) (by simp[results,Tryz.results83,go_sem,y0,y1,y2,y3,y4,y5,y6]) rfl ⟨⟨⟨0,x0.kind,x0.num,x0.flt,x0.str,x0.ref⟩,rfl,VK0.out⟩,bset (bset (bset (bset (bset (bset (bset (bset (bset (bset (bset (bset (F4.out.o) (by omega) _) (by omega) _) (by omega) _) (by omega) _) (by omega) _) (by omega) _) (by omega) _) (by omega) _) (by omega) _) (by omega) _) (by omega) _) (by omega) _⟩):p:=h
theorem J9 (h:p:=by
 go_enter Tryz.func123,Tryz.ntmps123
 go_wp2_with fail
 have T0:Hid (TwoV w _ #[.int .i64 ka,.int .i64 na,.float .f64 fa,.string sa,.int .i64 ra] #[.int .i64 kb,.int .i64 nb,.float .f64 fb,.string sb,.int .i64 rb]):=TwoV.start w _ _
 generalize (w.alloc (Obj.cells #[.int .i64 ka,.int .i64 na,.float .f64 fa,.string sa,.int .i64 ra] 153)).alloc (Obj.cells #[.int .i64 kb,.int .i64 nb,.float .f64 fb,.string sb,.int .i64 rb] 153)=w0' at*
 refine (valueOk_any ka na fa sa ra _).mono ?_
 rintro e w1 ⟨⟨x,rfl,hx⟩,o1⟩
 have T1:Hid _:=T0.out.onw o1
 clear o1
 have ac0:=Blk.at_ T1.out.a 0 rfl
 have bc0:=Blk.at_ T1.out.b 0 rfl
 have ac1:=Blk.at_ T1.out.a 1 rfl
 have bc1:=Blk.at_ T1.out.b 1 rfl
 have ac2:=Blk.at_ T1.out.a 2 rfl
 have bc2:=Blk.at_ T1.out.b 2 rfl
 have ac3:=Blk.at_ T1.out.a 3 rfl
 have bc3:=Blk.at_ T1.out.b 3 rfl
 have ac4:=Blk.at_ T1.out.a 4 rfl
 have bc4:=Blk.at_ T1.out.b 4 rfl
 have az:=Blk.lt T1.out.a
 have bz:=Blk.lt T1.out.b
 have HX:Hid _:=hx
 clear hx
 cases x
 ·exact J236
 have sa1:sa.size<=4000:=HX.out rfl
 go_wp2_with fail
 clear ac0 bc0 ac1 bc1 ac2 bc2 ac3 bc3 ac4 bc4 az bz
 refine (valueOk_any kb nb fb sb rb _).mono ?_
 rintro e w2 ⟨⟨y,rfl,hy⟩,o2⟩
 have T2:Hid _:=T1.out.onw o2
 clear o2
 have ac0:=Blk.at_ T2.out.a 0 rfl
 have bc0:=Blk.at_ T2.out.b 0 rfl
 have ac1:=Blk.at_ T2.out.a 1 rfl
 have bc1:=Blk.at_ T2.out.b 1 rfl
 have ac2:=Blk.at_ T2.out.a 2 rfl
 have bc2:=Blk.at_ T2.out.b 2 rfl
 have ac3:=Blk.at_ T2.out.a 3 rfl
 have bc3:=Blk.at_ T2.out.b 3 rfl
 have ac4:=Blk.at_ T2.out.a 4 rfl
 have bc4:=Blk.at_ T2.out.b 4 rfl
 have az:=Blk.lt T2.out.a
 have bz:=Blk.lt T2.out.b
 have HY:Hid _:=hy
 clear hy
 cases y
 ·exact J237
 have sb1:sb.size<=4000:=HY.out rfl
 go_wp2_with fail
 clear ac0 bc0 ac1 bc1 ac2 bc2 ac3 bc3 ac4 bc4 az bz
 refine (l1num_any ka na fa sa ra _).mono ?_
 rintro e w3 ⟨rfl,o3⟩
 have T3:Hid _:=T2.out.onw o3
 clear o3
 have ac0:=Blk.at_ T3.out.a 0 rfl
 have bc0:=Blk.at_ T3.out.b 0 rfl
 have ac1:=Blk.at_ T3.out.a 1 rfl
 have bc1:=Blk.at_ T3.out.b 1 rfl
 have ac2:=Blk.at_ T3.out.a 2 rfl
 have bc2:=Blk.at_ T3.out.b 2 rfl
 have ac3:=Blk.at_ T3.out.a 3 rfl
 have bc3:=Blk.at_ T3.out.b 3 rfl
 have ac4:=Blk.at_ T3.out.a 4 rfl
 have bc4:=Blk.at_ T3.out.b 4 rfl
 have az:=Blk.lt T3.out.a
 have bz:=Blk.lt T3.out.b
 go_wp2_with fail
 clear ac0 bc0 ac1 bc1 ac2 bc2 ac3 bc3 ac4 bc4 az bz
 refine (l1num_any kb nb fb sb rb _).mono ?_
 rintro e w4 ⟨rfl,o4⟩
 have T4:Hid _:=T3.out.onw o4
 clear o4
 have ac0:=Blk.at_ T4.out.a 0 rfl
 have bc0:=Blk.at_ T4.out.b 0 rfl
 have ac1:=Blk.at_ T4.out.a 1 rfl
 have bc1:=Blk.at_ T4.out.b 1 rfl
 have ac2:=Blk.at_ T4.out.a 2 rfl
 have bc2:=Blk.at_ T4.out.b 2 rfl
 have ac3:=Blk.at_ T4.out.a 3 rfl
 have bc3:=Blk.at_ T4.out.b 3 rfl
 have ac4:=Blk.at_ T4.out.a 4 rfl
 have bc4:=Blk.at_ T4.out.b 4 rfl
 have az:=Blk.lt T4.out.a
 have bz:=Blk.lt T4.out.b
 exact J245):p:=h
theorem J10 (h:p:=by
 obtain ⟨t0,c0,c1,c2,c3,c4,c5,c6,c7,c8,c9⟩:=T
 go_wp2_with fail
 exact J225):p:=h
theorem J11 (h:p:=by
 go_ret
 exact ⟨rtb (by rw[x0.out,x1.out] <;> first|rfl|exact beq_false_of_ne (by assumption)|exact beq_false_of_ne (by omega)|exact decide_eq_false (by omega)|(show _=true;simp;done)|(show _=true;simp;omega)|(show _=false;simp;done)|(show _=false;simp;omega)),ob⟩):p:=h
theorem J12 (h:p:=by
 go_ret
 exact ⟨rtb (by rw[x0.out,x1.out,x2.out] <;> first|rfl|exact beq_false_of_ne (by assumption)|exact beq_false_of_ne (by omega)|exact decide_eq_false (by omega)|(show _=true;simp;done)|(show _=true;simp;omega)|(show _=false;simp;done)|(show _=false;simp;omega)),ob⟩):p:=h
theorem J13 (h:p:=by
 go_enter Tryz.func108,Tryz.ntmps108
 go_wp2_with fail
 have T0:Hid _:=st3 w 153 153 207 #[.int .i64 ka,.int .i64 na,.float .f64 fa,.string sa,.int .i64 ra] #[.int .i64 kb,.int .i64 nb,.float .f64 fb,.string sb,.int .i64 rb] #[.int .i64 0,.int .i64 0,.int .i64 0,.float .f64 0,.string {data:= #[]},.int .i64 0]
 generalize ((w.alloc (Obj.cells #[.int .i64 ka,.int .i64 na,.float .f64 fa,.string sa,.int .i64 ra] 153)).alloc (Obj.cells #[.int .i64 kb,.int .i64 nb,.float .f64 fb,.string sb,.int .i64 rb] 153)).alloc (Obj.cells #[.int .i64 0,.int .i64 0,.int .i64 0,.float .f64 0,.string {data:= #[]},.int .i64 0] 207)=w0' at*
 refine (valueOk_any ka na fa sa ra _).mono ?_
 rintro e w1 ⟨⟨xa,rfl,hxa⟩,o1⟩
 have T1:Hid _:=on3 T0.out o1
 clear o1
 have HXa:Hid _:=hxa
 clear hxa
 have ac0:=Blk.at_ T1.out.2.1 0 rfl
 have ac1:=Blk.at_ T1.out.2.1 1 rfl
 have ac2:=Blk.at_ T1.out.2.1 2 rfl
 have ac3:=Blk.at_ T1.out.2.1 3 rfl
 have ac4:=Blk.at_ T1.out.2.1 4 rfl
 have az:=Blk.lt T1.out.2.1
 have bc0:=Blk.at_ T1.out.2.2.1 0 rfl
 have bc1:=Blk.at_ T1.out.2.2.1 1 rfl
 have bc2:=Blk.at_ T1.out.2.2.1 2 rfl
 have bc3:=Blk.at_ T1.out.2.2.1 3 rfl
 have bc4:=Blk.at_ T1.out.2.2.1 4 rfl
 have bz:=Blk.lt T1.out.2.2.1
 cases xa
 ·exact J5
 have sza:sa.size<=4000:=HXa.out rfl
 go_wp2_with fail
 clear ac0 ac1 ac2 ac3 ac4 bc0 bc1 bc2 bc3 bc4 az bz
 refine (valueOk_any kb nb fb sb rb _).mono ?_
 rintro e w2 ⟨⟨xb,rfl,hxb⟩,o2⟩
 have T2:Hid _:=on3 T1.out o2
 clear o2
 have HXb:Hid _:=hxb
 clear hxb
 have ac0:=Blk.at_ T2.out.2.1 0 rfl
 have ac1:=Blk.at_ T2.out.2.1 1 rfl
 have ac2:=Blk.at_ T2.out.2.1 2 rfl
 have ac3:=Blk.at_ T2.out.2.1 3 rfl
 have ac4:=Blk.at_ T2.out.2.1 4 rfl
 have az:=Blk.lt T2.out.2.1
 have bc0:=Blk.at_ T2.out.2.2.1 0 rfl
 have bc1:=Blk.at_ T2.out.2.2.1 1 rfl
 have bc2:=Blk.at_ T2.out.2.2.1 2 rfl
 have bc3:=Blk.at_ T2.out.2.2.1 3 rfl
 have bc4:=Blk.at_ T2.out.2.2.1 4 rfl
 have bz:=Blk.lt T2.out.2.2.1
 cases xb
 ·exact J3
 have szb:sb.size<=4000:=HXb.out rfl
 go_wp2_with fail
 clear ac0 ac1 ac2 ac3 ac4 bc0 bc1 bc2 bc3 bc4 az bz
 refine (l1num_any ka na fa sa ra _).mono ?_
 rintro e w3 ⟨rfl,o3⟩
 have T3:Hid _:=on3 T2.out o3
 clear o3
 have ac0:=Blk.at_ T3.out.2.1 0 rfl
 have ac1:=Blk.at_ T3.out.2.1 1 rfl
 have ac2:=Blk.at_ T3.out.2.1 2 rfl
 have ac3:=Blk.at_ T3.out.2.1 3 rfl
 have ac4:=Blk.at_ T3.out.2.1 4 rfl
 have az:=Blk.lt T3.out.2.1
 have bc0:=Blk.at_ T3.out.2.2.1 0 rfl
 have bc1:=Blk.at_ T3.out.2.2.1 1 rfl
 have bc2:=Blk.at_ T3.out.2.2.1 2 rfl
 have bc3:=Blk.at_ T3.out.2.2.1 3 rfl
 have bc4:=Blk.at_ T3.out.2.2.1 4 rfl
 have bz:=Blk.lt T3.out.2.2.1
 exact J220):p:=h
theorem J14 (h:p:=by
 clear hK K
 try simp only[gA,gB,gC,Act.put,gD,gE,gF]
 have hx:=(HH1.out.onw O2'.out).row
 have hlo:=(HH1.out.onw O2'.out).on.size
 have N3:=Blk.new w2 58 #[.int .i64 i,.int .i64 (useT (rflat (s::r)) l m.text).1,.int .i64 (useT (rflat (s::r)) l m.text).2.1,.int .i64 (useT (rflat (s::r)) l m.text).2.2]
 refine rd [9] ?_
 refine AllReadyH.cons rfl (fun K hK=>?_) ?_
 ·refine step_app (by rfl) (.tmp 107) (.tmp 111) 26 (by rfl) w0.heap.size 58 q0 _ 4 32 Tryz.underlying26 hq hz0 hz1 hz2 rfl (by decide) v us.length us.flatten (by rfl) (World.ownsRow.alloc hx _) ⟨w2.heap.size,0,none⟩ 1 1 [.int .i64 i,.int .i64 (useT (rflat (s::r)) l m.text).1,.int .i64 (useT (rflat (s::r)) l m.text).2.1,.int .i64 (useT (rflat (s::r)) l m.text).2.2] (by rfl) (by rfl) (fun j u hj=>by rw[Go.WideShapes.add_plain];exact (Blk.cell N3 (0+j)).trans (by rw[Nat.zero_add];simpa using hj)) (by simp[Value.oneCell']) (by decide) (by simp only[maxLen];omega) (by omega) (by simp;omega) ?_
  intro g cap w3 hown hgrow hwhere
  have R2:=(HH1.out.onw O2'.out).onw (Onw.alloc w2 (Obj.cells #[.int .i64 i,.int .i64 (useT (rflat (s::r)) l m.text).1,.int .i64 (useT (rflat (s::r)) l m.text).2.1,.int .i64 (useT (rflat (s::r)) l m.text).2.2] 58))
  have N2a:=Blk.onw (Onw.alloc w2 (Obj.cells #[.int .i64 i,.int .i64 (useT (rflat (s::r)) l m.text).1,.int .i64 (useT (rflat (s::r)) l m.text).2.1,.int .i64 (useT (rflat (s::r)) l m.text).2.2] 58)) N2.out
  have N4:Blk w3 G 141 #[.int .i64 i,.int .i64 m.kind,.int .i64 m.frm,.int .i64 m.tto,.int .i64 m.line,.int .i64 m.op,.int .i64 m.num,.float .f64 m.flt,.string m.text,.slice m.na m.nn m.nc,.slice m.ka m.nk m.kc,.slice kk m.nk m.nk]:=(hgrow.block G N2a.lt (fun e=>row_blk R2.row N2a (by decide) e.symm)).trans N2a
  have B3:Blk w3 rp 83 _:=(hgrow.block rp R2.blk.lt (fun e=>row_blk R2.row R2.blk (by decide) e.symm)).trans R2.blk
  have d1:w3.cell? ⟨rp,1,none⟩=some v:=(Blk.cell B3 1).trans rfl
  have bf3:=Blk.free B3
  have zr3:=Blk.lt B3
  obtain ⟨P1,P2⟩:=RdAt.push R2 (x:= [.int .i64 i,.int .i64 (useT (rflat (s::r)) l m.text).1,.int .i64 (useT (rflat (s::r)) l m.text).2.1,.int .i64 (useT (rflat (s::r)) l m.text).2.2]) rfl hown hgrow hwhere
  have HP1:Hid _:=P1
  have HP2:Hid _:=P2 s.mb
  have N5:Hid _:=Blk.kept (ksc w3 rp 1 (.slice (some ⟨g,0,none⟩) (us.length+1) cap)) nG2 N4
  clear P1 P2 R2 N2a hown hgrow hwhere B3 N3 hx hlo c1 zr2
  refine hK.out _ _ N4 (fun hHeld=>?_)
  clear hK K
  try simp only[gA,gB,gC,Act.put,gD,gE,gF]
  refine tk 10 ?_
  refine tk 11 ?_
  refine rd [12] ?_
  refine AllReadyH.cons rfl (fun K hK=>?_) ?_
  ·simp only[gA,gB,gC]
   go_simp
   refine hK.out _ _ (by exact N5.out) (fun hHeld=>?_)
   clear hK K
   try simp only[gA,gB,gC,Act.put,gD,gE,gF]
   refine wpAnyH_done (by kernel_rfl) ?_ _
   clear N4 N5 d1 bf3 zr3 hHeld
   generalize w3.setCell ⟨rp,1,none⟩ (.slice (some ⟨g,0,none⟩) (us.length+1) cap)=w4 at*
   go_wp2_with fail
   exact bodyPost_end (v:= .tuple #[]) (results_none rfl _ _ _) rfl ⟨rfl,_,s.es,by rw[useOf_eq];exact HP1.out,rfl,(((RFr.onw O0.out rp v s.mb).trans (RFr.onw O2'.out rp v s.mb)).trans (RFr.onw (Onw.alloc w2 _) rp v s.mb)).trans HP2.out,HLV.out.own s List.mem_cons_self⟩
  exact AllReadyH.nil
 exact AllReadyH.nil):p:=h
theorem J15 (h:p:=by
 rintro e w1 ⟨⟨_,rfl,k1,n1,f1,s1,r1,rfl,v1⟩,o1⟩
 have F1:Hid _:=F0.out.onw o1
 have V1:Hid _:=v1
 clear v1 o1
 have y0:=Blk.at_ F1.out.rb 0 rfl
 have y1:=Blk.at_ F1.out.rb 1 rfl
 have y2:=Blk.at_ F1.out.rb 2 rfl
 have y3:=Blk.at_ F1.out.rb 3 rfl
 have y4:=Blk.at_ F1.out.rb 4 rfl
 have y5:=Blk.at_ F1.out.rb 5 rfl
 have y6:=Blk.at_ F1.out.rb 6 rfl
 have yf:=Blk.free F1.out.rb
 have yz:=Blk.lt F1.out.rb
 have d0:=Blk.at_ F1.out.bb 0 rfl
 have d1:=Blk.at_ F1.out.bb 1 rfl
 have d2:=Blk.at_ F1.out.bb 2 rfl
 have d3:=Blk.at_ F1.out.bb 3 rfl
 have d4:=Blk.at_ F1.out.bb 4 rfl
 have d5:=Blk.at_ F1.out.bb 5 rfl
 have d6:=Blk.at_ F1.out.bb 6 rfl
 have df:=Blk.free F1.out.bb
 have dz:=Blk.lt F1.out.bb
 have g0:=Blk.at_ F1.out.gb 0 rfl
 have g1:=Blk.at_ F1.out.gb 1 rfl
 have g2:=Blk.at_ F1.out.gb 2 rfl
 have g3:=Blk.at_ F1.out.gb 3 rfl
 have g4:=Blk.at_ F1.out.gb 4 rfl
 have g5:=Blk.at_ F1.out.gb 5 rfl
 have g6:=Blk.at_ F1.out.gb 6 rfl
 have gf:=Blk.free F1.out.gb
 have gz:=Blk.lt F1.out.gb
 have n03:w.heap.size≠w.heap.size+3:=by omega
 have n30:w.heap.size+3≠w.heap.size:=by omega
 go_wp2_with fail
 exact bodyPost_ret (v:= .agg #[.int .i64 i,.int .i64 0,.int .i64 k1,.int .i64 n1,.float .f64 f1,.string s1,.int .i64 r1]) (by simp[results,Tryz.results83,go_sem,y0,y1,y2,y3,y4,y5,y6]) rfl ⟨⟨⟨0,k1,n1,f1,s1,r1⟩,rfl,V1.out⟩,bset (bset (bset (bset (bset (bset (bset (bset (bset (bset (bset (bset (F1.out.o) (by omega) _) (by omega) _) (by omega) _) (by omega) _) (by omega) _) (by omega) _) (by omega) _) (by omega) _) (by omega) _) (by omega) _) (by omega) _) (by omega) _⟩):p:=h
theorem J16 (h:p:=by
 rintro e w5 ⟨⟨_,rfl,c9,k9,n9,f9,s9,r9,rfl,v9⟩,o5⟩
 have T5:Hid _:=on3 T4.out o5
 clear o5
 have V9:Hid _:=v9
 clear v9
 have ac0:=Blk.at_ T5.out.2.1 0 rfl
 have ac1:=Blk.at_ T5.out.2.1 1 rfl
 have ac2:=Blk.at_ T5.out.2.1 2 rfl
 have ac3:=Blk.at_ T5.out.2.1 3 rfl
 have ac4:=Blk.at_ T5.out.2.1 4 rfl
 have az:=Blk.lt T5.out.2.1
 have bc0:=Blk.at_ T5.out.2.2.1 0 rfl
 have bc1:=Blk.at_ T5.out.2.2.1 1 rfl
 have bc2:=Blk.at_ T5.out.2.2.1 2 rfl
 have bc3:=Blk.at_ T5.out.2.2.1 3 rfl
 have bc4:=Blk.at_ T5.out.2.2.1 4 rfl
 have bz:=Blk.lt T5.out.2.2.1
 have y0:=Blk.at_ T5.out.2.2.2 0 rfl
 have y1:=Blk.at_ T5.out.2.2.2 1 rfl
 have y2:=Blk.at_ T5.out.2.2.2 2 rfl
 have y3:=Blk.at_ T5.out.2.2.2 3 rfl
 have y4:=Blk.at_ T5.out.2.2.2 4 rfl
 have y5:=Blk.at_ T5.out.2.2.2 5 rfl
 have yf:=Blk.free T5.out.2.2.2
 have yz:=Blk.lt T5.out.2.2.2
 go_wp2_with fail
 exact bodyPost_ret (v:= .agg #[.int .i64 c9,.int .i64 k9,.int .i64 n9,.float .f64 f9,.string s9,.int .i64 r9]) (by simp[results,Tryz.results108,go_sem,y0,y1,y2,y3,y4,y5]) rfl ⟨⟨_,rfl,_,_,_,_,_,_,rfl,V9.out⟩,bset (bset (bset (bset (bset (bset (T5.out.1) (by omega) _) (by omega) _) (by omega) _) (by omega) _) (by omega) _) (by omega) _⟩):p:=h
theorem J17 (h:p:=by
 refine AllReadyH.cons rfl (fun K hK=>?_) ?_
 ·simp only[gA,gB,gC]
  go_simp
  refine hK.out _ _ (by go_keep) (fun hHeld=>?_)
  clear hK K
  try simp only[gA,gB,gC,Act.put,gD,gE,gF]
  refine rd [22] ?_
  refine AllReadyH.cons rfl (fun K hK=>?_) ?_
  ·refine step_app (by rfl) (.tmp 125) (.tmp 142) 43 (by rfl) w0.heap.size 155 i4 _ 12 112 Tryz.underlying43 hi4 hz0 hz1 hz2 rfl (by decide) (V13 1) (R13 1).length (R13 1).flatten (by rfl) ((World.ownsRow.drew hx5).alloc _) ⟨wh.heap.size,0,none⟩ 1 1 [.string ((pm i).nm 0),.int .i64 i,.int .i64 0,.int .i64 l,.bool true,.int .i64 cc.code,.int .i64 cc.kind,.int .i64 cc.num,.float .f64 cc.flt,.string cc.str,.int .i64 cc.ref,.int .i64 0] (by rfl) (by rfl) (fun q u hq=>by rw[Go.WideShapes.add_plain];exact (Blk.cell N2 (0+q)).trans (by rw[Nat.zero_add];simpa using hq)) (by simp[Value.oneCell']) (by decide) (by simp only[maxLen];omega) (by omega) (by simp;omega) ?_
   intro g4 cap4 w12 hown hgrow hwhere
   obtain ⟨gr1,gr2,gr3,gr4⟩:=S13.out.grown (j:=1) (by omega) (by omega) ((Below.drew (Onw.refl wh)).trans (Onw.alloc wh.drew _)) hgrow
   have gx:=gr4 X13.out
   have KEA:Hid ((fun (w':World)=>w'.cell? ⟨w.heap.size,8,none⟩=some (.slice (some ⟨nb,no,none⟩) 1 (pm i).nc)/\w'.cell? ⟨nb,no,none⟩=some (.string ((pm i).nm 0))/\w'.cell? ⟨wp,2,none⟩=some (.slice (some ⟨ga,0,none⟩) (l+1:Nat) capa)/\w'.cell? ⟨kx,1,none⟩=some (.int .i64 cc.code)/\w'.cell? ⟨kx,2,none⟩=some (.int .i64 cc.kind)/\w'.cell? ⟨kx,3,none⟩=some (.int .i64 cc.num)/\w'.cell? ⟨kx,4,none⟩=some (.float .f64 cc.flt)/\w'.cell? ⟨kx,5,none⟩=some (.string cc.str)/\w'.cell? ⟨kx,6,none⟩=some (.int .i64 cc.ref)) w12):=⟨(Blk.cell gr1 8).trans rfl,gr3 NY.out,by rw[Blk.cell gr2,<-HVA.out];rfl,(Blk.cell gx 1).trans rfl,(Blk.cell gx 2).trans rfl,(Blk.cell gx 3).trans rfl,(Blk.cell gx 4).trans rfl,(Blk.cell gx 5).trans rfl,(Blk.cell gx 6).trans rfl⟩
   have b52:w12.cell? ⟨wp,1,none⟩=some (V13 1):=by rw[Blk.cell gr2];rfl
   have bf2:=Blk.free gr2
   have zb2:=Blk.lt gr2
   obtain ⟨own12,V12,h12,f12⟩:=S13.out.push (j:=1) (by omega) (by omega) (by omega) (by omega) (x:= [.string ((pm i).nm 0),.int .i64 i,.int .i64 0,.int .i64 l,.bool true,.int .i64 cc.code,.int .i64 cc.kind,.int .i64 cc.num,.float .f64 cc.flt,.string cc.str,.int .i64 cc.ref,.int .i64 0]) rfl ((Below.drew (Onw.refl wh)).trans (Onw.alloc wh.drew _)) hown hgrow hwhere (S13.out.at_.name (constN i ((pm i).nm 0) l cc))
   have S12:Hid _:=h12
   have X12:Hid _:=X13.out.fr f12
   have KEB:Hid ((fun (w':World)=>w'.cell? ⟨w.heap.size,8,none⟩=some (.slice (some ⟨nb,no,none⟩) 1 (pm i).nc)/\w'.cell? ⟨nb,no,none⟩=some (.string ((pm i).nm 0))/\w'.cell? ⟨wp,2,none⟩=some (.slice (some ⟨ga,0,none⟩) (l+1:Nat) capa)/\w'.cell? ⟨kx,1,none⟩=some (.int .i64 cc.code)/\w'.cell? ⟨kx,2,none⟩=some (.int .i64 cc.kind)/\w'.cell? ⟨kx,3,none⟩=some (.int .i64 cc.num)/\w'.cell? ⟨kx,4,none⟩=some (.float .f64 cc.flt)/\w'.cell? ⟨kx,5,none⟩=some (.string cc.str)/\w'.cell? ⟨kx,6,none⟩=some (.int .i64 cc.ref)) (w12.setCell ⟨wp,1,none⟩ (.slice (some ⟨g4,0,none⟩) ((R13 1).length+1:Nat) cap4))):=⟨(Blk.cell S12.out.pb 8).trans rfl,con S12.out.ws.wk.ov NY.out,by rw[Blk.cell (Blk.set gr2 1 _),<-HVA.out];rfl,(Blk.cell X12.out.xb 1).trans rfl,(Blk.cell X12.out.xb 2).trans rfl,(Blk.cell X12.out.xb 3).trans rfl,(Blk.cell X12.out.xb 4).trans rfl,(Blk.cell X12.out.xb 5).trans rfl,(Blk.cell X12.out.xb 6).trans rfl⟩
   clear hown hgrow hwhere gr1 gr2 gr3 gr4 gx h12 f12
   refine hK.out _ _ KEA.out (fun hHeld=>?_)
   clear hK K
   try simp only[gA,gB,gC,Act.put,gD,gE,gF]
   refine tk 23 ?_
   refine tk 24 ?_
   refine rd [25] ?_
   refine AllReadyH.cons rfl (fun K hK=>?_) ?_
   ·simp only[gA,gB,gC]
    go_simp
    refine hK.out _ _ (by exact KEB.out) (fun hHeld=>?_)
    clear hK K
    try simp only[gA,gB,gC,Act.put,gD,gE,gF]
    refine wpAnyH_done (by kernel_rfl) ?_ _
    clear b52 bf2 zb2 hHeld KEA
    go_wp2_with fail
    refine bodyPost_end (v:= .tuple #[]) (by simp[results,Tryz.results61,go_sem]) rfl ⟨rfl,S12.out.toS (by omega) ⟨?_,?_⟩⟩
    ·exact REL.out
    ·exact ADD.out
   exact AllReadyH.nil
  exact AllReadyH.nil
 exact AllReadyH.nil):p:=h
theorem J18 (h:p:=by
 rintro e w2 ⟨⟨_,rfl,k1,n1,f1,s1,r1,rfl,v1⟩,o2⟩
 have T2:Hid _:=on2 T1.out o2
 clear o2
 have V1:Hid _:=v1
 clear v1
 have ac0:=Blk.at_ T2.out.2.1 0 rfl
 have ac1:=Blk.at_ T2.out.2.1 1 rfl
 have ac2:=Blk.at_ T2.out.2.1 2 rfl
 have ac3:=Blk.at_ T2.out.2.1 3 rfl
 have ac4:=Blk.at_ T2.out.2.1 4 rfl
 have az:=Blk.lt T2.out.2.1
 go_wp2_with fail
 clear ac0 ac1 ac2 ac3 ac4 az
 refine (l1got_any k1 n1 f1 s1 r1 V1.out _).mono ?_
 rintro e w3 ⟨⟨_,rfl,c9,k9,n9,f9,s9,r9,rfl,v9⟩,o3⟩
 have T3:Hid _:=on2 T2.out o3
 clear o3
 have V9:Hid _:=v9
 clear v9
 have ac0:=Blk.at_ T3.out.2.1 0 rfl
 have ac1:=Blk.at_ T3.out.2.1 1 rfl
 have ac2:=Blk.at_ T3.out.2.1 2 rfl
 have ac3:=Blk.at_ T3.out.2.1 3 rfl
 have ac4:=Blk.at_ T3.out.2.1 4 rfl
 have az:=Blk.lt T3.out.2.1
 have y0:=Blk.at_ T3.out.2.2 0 rfl
 have y1:=Blk.at_ T3.out.2.2 1 rfl
 have y2:=Blk.at_ T3.out.2.2 2 rfl
 have y3:=Blk.at_ T3.out.2.2 3 rfl
 have y4:=Blk.at_ T3.out.2.2 4 rfl
 have y5:=Blk.at_ T3.out.2.2 5 rfl
 have yf:=Blk.free T3.out.2.2
 have yz:=Blk.lt T3.out.2.2
 go_wp2_with fail
 exact bodyPost_ret (v:= .agg #[.int .i64 c9,.int .i64 k9,.int .i64 n9,.float .f64 f9,.string s9,.int .i64 r9]) (by simp[results,Tryz.results107,go_sem,y0,y1,y2,y3,y4,y5]) rfl ⟨⟨_,rfl,_,_,_,_,_,_,rfl,V9.out⟩,bset (bset (bset (bset (bset (bset (T3.out.1) (by omega) _) (by omega) _) (by omega) _) (by omega) _) (by omega) _) (by omega) _⟩):p:=h
theorem J19 (h:p:=by
 refine AllReadyH.cons rfl (fun K hK=>?_) ?_
 ·simp only[gA,gB,gC]
  go_simp
  refine hK.out _ _ (by go_keep) (fun hHeld=>?_)
  clear hK K
  try simp only[gA,gB,gC,Act.put,gD,gE,gF]
  refine rd [12] ?_
  refine AllReadyH.cons rfl (fun K hK=>?_) ?_
  ·refine step_app (by rfl) (.tmp 110) (.tmp 117) 46 (by rfl) w0.heap.size 157 i4 _ 7 64 Tryz.underlying46 hi4 hz0 hz1 hz2 rfl (by decide) (V11 5) (R11 5).length (R11 5).flatten (by rfl) ((World.ownsRow.drew hx5).alloc _) ⟨wG.heap.size,0,none⟩ 1 1 [.int .i64 i,.int .i64 cc.code,.int .i64 cc.kind,.int .i64 cc.num,.float .f64 cc.flt,.string cc.str,.int .i64 cc.ref] (by rfl) (by rfl) (fun q u hq=>by rw[Go.WideShapes.add_plain];exact (Blk.cell N2 (0+q)).trans (by rw[Nat.zero_add];simpa using hq)) (by simp[Value.oneCell']) (by decide) (by simp only[maxLen];omega) (by omega) (by simp;omega) ?_
   intro g4 cap4 w12 hown hgrow hwhere
   obtain ⟨gr1,gr2,gr3,gr4⟩:=S11.out.grown (j:=5) (by omega) (by omega) ((Below.drew (Onw.refl wG)).trans (Onw.alloc wG.drew _)) hgrow
   have gx:=gr4 X11.out
   have KEA:Hid ((fun (w':World)=>w'.cell? ⟨kx,1,none⟩=some (.int .i64 cc.code)/\w'.cell? ⟨kx,2,none⟩=some (.int .i64 cc.kind)/\w'.cell? ⟨kx,3,none⟩=some (.int .i64 cc.num)/\w'.cell? ⟨kx,4,none⟩=some (.float .f64 cc.flt)/\w'.cell? ⟨kx,5,none⟩=some (.string cc.str)/\w'.cell? ⟨kx,6,none⟩=some (.int .i64 cc.ref)) w12):=⟨(Blk.cell gx 1).trans rfl,(Blk.cell gx 2).trans rfl,(Blk.cell gx 3).trans rfl,(Blk.cell gx 4).trans rfl,(Blk.cell gx 5).trans rfl,(Blk.cell gx 6).trans rfl⟩
   have b52:w12.cell? ⟨wp,5,none⟩=some (V11 5):=by rw[Blk.cell gr2];rfl
   have bf2:=Blk.free gr2
   have zb2:=Blk.lt gr2
   obtain ⟨own12,V12,h12,f12⟩:=S11.out.push (j:=5) (by omega) (by omega) (by omega) (by omega) (x:= [.int .i64 i,.int .i64 cc.code,.int .i64 cc.kind,.int .i64 cc.num,.float .f64 cc.flt,.string cc.str,.int .i64 cc.ref]) rfl ((Below.drew (Onw.refl wG)).trans (Onw.alloc wG.drew _)) hown hgrow hwhere (S11.out.at_.const i cc)
   have S12:Hid _:=h12
   have X12:Hid _:=X11.out.fr f12
   have KEB:Hid ((fun (w':World)=>w'.cell? ⟨kx,1,none⟩=some (.int .i64 cc.code)/\w'.cell? ⟨kx,2,none⟩=some (.int .i64 cc.kind)/\w'.cell? ⟨kx,3,none⟩=some (.int .i64 cc.num)/\w'.cell? ⟨kx,4,none⟩=some (.float .f64 cc.flt)/\w'.cell? ⟨kx,5,none⟩=some (.string cc.str)/\w'.cell? ⟨kx,6,none⟩=some (.int .i64 cc.ref)) (w12.setCell ⟨wp,5,none⟩ (.slice (some ⟨g4,0,none⟩) ((R11 5).length+1:Nat) cap4))):=⟨(Blk.cell X12.out.xb 1).trans rfl,(Blk.cell X12.out.xb 2).trans rfl,(Blk.cell X12.out.xb 3).trans rfl,(Blk.cell X12.out.xb 4).trans rfl,(Blk.cell X12.out.xb 5).trans rfl,(Blk.cell X12.out.xb 6).trans rfl⟩
   clear hown hgrow hwhere gr1 gr2 gr3 gr4 gx h12 f12
   refine hK.out _ _ KEA.out (fun hHeld=>?_)
   clear hK K
   try simp only[gA,gB,gC,Act.put,gD,gE,gF]
   refine tk 13 ?_
   refine tk 14 ?_
   refine rd [15] ?_
   refine AllReadyH.cons rfl (fun K hK=>?_) ?_
   ·simp only[gA,gB,gC]
    go_simp
    refine hK.out _ _ (by exact KEB.out) (fun hHeld=>?_)
    clear hK K
    try simp only[gA,gB,gC,Act.put,gD,gE,gF]
    refine wpAnyH_done (by kernel_rfl) ?_ _
    clear b52 bf2 zb2 hHeld KEA
    go_wp2_with fail
    go_meet
    case rel=>exact ⟨own12,V12,S12.out,X12.out⟩
   exact AllReadyH.nil
  exact AllReadyH.nil
 exact AllReadyH.nil):p:=h
theorem J20 (h:p:=by
 refine AllReadyH.cons rfl (fun K hK=>?_) ?_
 ·simp only[gA,gB,gC]
  go_simp
  refine hK.out _ _ (by go_keep) (fun hHeld=>?_)
  clear hK K
  try simp only[gA,gB,gC,Act.put,gD,gE,gF]
  refine rd [16] ?_
  refine AllReadyH.cons rfl (fun K hK=>?_) ?_
  ·refine step_app (by rfl) (.tmp 70) (.tmp 72) 70 (by rfl) w0.heap.size 227 i0 _ 2 16 Tryz.underlying70 hi0 hz0 hz1 hz2 rfl (by decide) (.slice ua us.length uc) us.length us.flatten (by rfl) ((World.ownsRow.drew hx).alloc _) ⟨wr.heap.size,0,none⟩ 1 1 [.bool false,.int .i64 av'] (by rfl) (by rfl) (fun q u hq=>by rw[Go.WideShapes.add_plain];exact (Blk.cell N2 (0+q)).trans (by rw[Nat.zero_add];simpa using hq)) (by simp[Value.oneCell']) (by decide) (by simp only[maxLen];omega) (by omega) (by simp;omega) ?_
   intro g2 cap2 w2 hown hgrow hwhere
   have q6:w2.cell? ⟨g',k*9+1+5,none⟩=some (.slice ua us.length uc):=hgrow.cell (con ((Below.drew (Onw.refl wr)).trans (Onw.alloc wr.drew _)) c6') (fun e=>hne e.symm)
   have f62:w2.frozen? ⟨g',k*9+1+5,none⟩=false:=(World.frozen?_of_block (a:=⟨g',k*9+1+5,none⟩) ((hgrow.block g' (by simp;omega) (fun e=>hne e.symm)).trans (heap_alloc_old wr.drew _ (show g' < wr.drew.heap.size from zg')))).trans f6'
   have zg2:g' < w2.heap.size:=clt q6
   refine hK.out _ _ ⟨hgrow.cell hHeld.1 (fun e=>hne2 e.symm),hgrow.cell hHeld.2.1 (fun e=>hneB e.symm),hgrow.cell hHeld.2.2 (fun e=>hneB e.symm)⟩ (fun hHeld=>?_)
   clear hK K
   simp only[gA,gB,gC,Act.put,gD,gE,gF]
   refine tk 17 ?_
   refine tk 18 ?_
   refine tk 19 ?_
   refine rd [20] ?_
   refine AllReadyH.cons rfl (fun K hK=>?_) ?_
   ·simp only[gA,gB,gC]
    go_simp
    refine hK.out _ _ (by go_keep) (fun hHeld=>?_)
    clear hK K
    try simp only[gA,gB,gC,Act.put,gD,gE,gF]
    refine wpAnyH_done (by kernel_rfl) ?_ _
    have hk2:=HK.out
    rw[HC.out] at hk2
    obtain ⟨R',a,b,s⟩:=H2.out.pushU (k:=k) (x:= [.bool false,.int .i64 av']) hk2 HV.out rv2.out RU2.out rn2.out HUS.out lv lu lnn rfl ⟨_,_,rfl⟩ ((Below.drew (Onw.refl wr)).trans (Onw.alloc wr.drew _)) hown (by rw[HUV.out];exact hgrow) (by rw[HUV.out];exact hwhere)
    exact J221
   exact AllReadyH.nil
  exact AllReadyH.nil
 exact AllReadyH.nil):p:=h
theorem J21 (h:p:=by
 refine AllReadyH.cons rfl (fun K hK=>?_) ?_
 ·simp only[gA,gB,gC]
  go_simp
  refine hK.out _ _ (by go_keep) (fun hHeld=>?_)
  clear hK K
  try simp only[gA,gB,gC,Act.put,gD,gE,gF]
  refine rd [16] ?_
  refine AllReadyH.cons rfl (fun K hK=>?_) ?_
  ·refine step_app (by rfl) (.tmp 70) (.tmp 72) 70 (by rfl) w0.heap.size 227 i0 _ 2 16 Tryz.underlying70 hi0 hz0 hz1 hz2 rfl (by decide) (.slice ua us.length uc) us.length us.flatten (by rfl) ((World.ownsRow.drew hx).alloc _) ⟨wr.heap.size,0,none⟩ 1 1 [.bool true,.int .i64 x.v] (by rfl) (by rfl) (fun q u hq=>by rw[Go.WideShapes.add_plain];exact (Blk.cell N2 (0+q)).trans (by rw[Nat.zero_add];simpa using hq)) (by simp[Value.oneCell']) (by decide) (by simp only[maxLen];omega) (by omega) (by simp;omega) ?_
   intro g2 cap2 w2 hown hgrow hwhere
   have q6:w2.cell? ⟨g',k*9+1+5,none⟩=some (.slice ua us.length uc):=hgrow.cell (con ((Below.drew (Onw.refl wr)).trans (Onw.alloc wr.drew _)) c6') (fun e=>hne e.symm)
   have f62:w2.frozen? ⟨g',k*9+1+5,none⟩=false:=(World.frozen?_of_block (a:=⟨g',k*9+1+5,none⟩) ((hgrow.block g' (by simp;omega) (fun e=>hne e.symm)).trans (heap_alloc_old wr.drew _ (show g' < wr.drew.heap.size from zg')))).trans f6'
   have zg2:g' < w2.heap.size:=clt q6
   refine hK.out _ _ ⟨hgrow.cell hHeld.1 (fun e=>hne2 e.symm),hgrow.cell hHeld.2.1 (fun e=>hneB e.symm),hgrow.cell hHeld.2.2 (fun e=>hneB e.symm)⟩ (fun hHeld=>?_)
   clear hK K
   simp only[gA,gB,gC,Act.put,gD,gE,gF]
   refine tk 17 ?_
   refine tk 18 ?_
   refine tk 19 ?_
   refine rd [20] ?_
   refine AllReadyH.cons rfl (fun K hK=>?_) ?_
   ·simp only[gA,gB,gC]
    go_simp
    refine hK.out _ _ (by go_keep) (fun hHeld=>?_)
    clear hK K
    try simp only[gA,gB,gC,Act.put,gD,gE,gF]
    refine wpAnyH_done (by kernel_rfl) ?_ _
    have hk2:=HK.out
    rw[HC.out] at hk2
    obtain ⟨R',a,b,s⟩:=H2.out.pushU (k:=k) (x:= [.bool true,.int .i64 x.v]) hk2 HV.out rv2.out RU2.out rn2.out HUS.out lv lu lnn rfl ⟨_,_,rfl⟩ ((Below.drew (Onw.refl wr)).trans (Onw.alloc wr.drew _)) hown (by rw[HUV.out];exact hgrow) (by rw[HUV.out];exact hwhere)
    exact J221
   exact AllReadyH.nil
  exact AllReadyH.nil
 exact AllReadyH.nil):p:=h
theorem J22 (h:p:=by
 clear hp
 exact J224):p:=h
theorem J23 (h:p:=by
 rintro e w' ⟨rfl,o⟩
 exact ⟨congrArg (fun b=>Ending.returned (.bool b)) h0.symm,o⟩):p:=h
theorem J24 (h:p:=by
 go_enter Tryz.func108,Tryz.ntmps108
 go_wp2_with fail
 have T0:Hid _:=st3 w 153 153 207 #[.int .i64 ka,.int .i64 na,.float .f64 fa,.string sa,.int .i64 ra] #[.int .i64 kb,.int .i64 nb,.float .f64 fb,.string sb,.int .i64 rb] #[.int .i64 0,.int .i64 0,.int .i64 0,.float .f64 0,.string {data:= #[]},.int .i64 0]
 generalize ((w.alloc (Obj.cells #[.int .i64 ka,.int .i64 na,.float .f64 fa,.string sa,.int .i64 ra] 153)).alloc (Obj.cells #[.int .i64 kb,.int .i64 nb,.float .f64 fb,.string sb,.int .i64 rb] 153)).alloc (Obj.cells #[.int .i64 0,.int .i64 0,.int .i64 0,.float .f64 0,.string {data:= #[]},.int .i64 0] 207)=w0' at*
 refine (valueOk_any ka na fa sa ra _).mono ?_
 rintro e w1 ⟨⟨xa,rfl,hxa⟩,o1⟩
 have T1:Hid _:=on3 T0.out o1
 clear o1
 have HXa:Hid _:=hxa
 clear hxa
 have ac0:=Blk.at_ T1.out.2.1 0 rfl
 have ac1:=Blk.at_ T1.out.2.1 1 rfl
 have ac2:=Blk.at_ T1.out.2.1 2 rfl
 have ac3:=Blk.at_ T1.out.2.1 3 rfl
 have ac4:=Blk.at_ T1.out.2.1 4 rfl
 have az:=Blk.lt T1.out.2.1
 have bc0:=Blk.at_ T1.out.2.2.1 0 rfl
 have bc1:=Blk.at_ T1.out.2.2.1 1 rfl
 have bc2:=Blk.at_ T1.out.2.2.1 2 rfl
 have bc3:=Blk.at_ T1.out.2.2.1 3 rfl
 have bc4:=Blk.at_ T1.out.2.2.1 4 rfl
 have bz:=Blk.lt T1.out.2.2.1
 cases xa
 ·exact J5
 have sza:sa.size<=4000:=HXa.out rfl
 go_wp2_with fail
 clear ac0 ac1 ac2 ac3 ac4 bc0 bc1 bc2 bc3 bc4 az bz
 refine (valueOk_any kb nb fb sb rb _).mono ?_
 rintro e w2 ⟨⟨xb,rfl,hxb⟩,o2⟩
 have T2:Hid _:=on3 T1.out o2
 clear o2
 have HXb:Hid _:=hxb
 clear hxb
 have ac0:=Blk.at_ T2.out.2.1 0 rfl
 have ac1:=Blk.at_ T2.out.2.1 1 rfl
 have ac2:=Blk.at_ T2.out.2.1 2 rfl
 have ac3:=Blk.at_ T2.out.2.1 3 rfl
 have ac4:=Blk.at_ T2.out.2.1 4 rfl
 have az:=Blk.lt T2.out.2.1
 have bc0:=Blk.at_ T2.out.2.2.1 0 rfl
 have bc1:=Blk.at_ T2.out.2.2.1 1 rfl
 have bc2:=Blk.at_ T2.out.2.2.1 2 rfl
 have bc3:=Blk.at_ T2.out.2.2.1 3 rfl
 have bc4:=Blk.at_ T2.out.2.2.1 4 rfl
 have bz:=Blk.lt T2.out.2.2.1
 cases xb
 ·exact J3
 have szb:sb.size<=4000:=HXb.out rfl
 go_wp2_with fail
 clear ac0 ac1 ac2 ac3 ac4 bc0 bc1 bc2 bc3 bc4 az bz
 refine (same_any ka na fa sa ra kb nb fb sb rb _).mono ?_
 rintro e w3 ⟨⟨x,rfl⟩,o3⟩
 have T3:Hid _:=on3 T2.out o3
 clear o3
 have ac0:=Blk.at_ T3.out.2.1 0 rfl
 have ac1:=Blk.at_ T3.out.2.1 1 rfl
 have ac2:=Blk.at_ T3.out.2.1 2 rfl
 have ac3:=Blk.at_ T3.out.2.1 3 rfl
 have ac4:=Blk.at_ T3.out.2.1 4 rfl
 have az:=Blk.lt T3.out.2.1
 have bc0:=Blk.at_ T3.out.2.2.1 0 rfl
 have bc1:=Blk.at_ T3.out.2.2.1 1 rfl
 have bc2:=Blk.at_ T3.out.2.2.1 2 rfl
 have bc3:=Blk.at_ T3.out.2.2.1 3 rfl
 have bc4:=Blk.at_ T3.out.2.2.1 4 rfl
 have bz:=Blk.lt T3.out.2.2.1
 exact J223):p:=h
theorem J25 (h:p:=by grind [exprs1,exprs2,exprs3,exprsN,cls1,cls2,cls4,cls8,cls16,cls32,cls64,cls128,cls256,cls512,allB,namedP]):p:=h
theorem J26 (h:p:=by
 go_enter Tryz.func108,Tryz.ntmps108
 go_wp2_with fail
 have T0:Hid _:=st3 w 153 153 207 #[.int .i64 ka,.int .i64 na,.float .f64 fa,.string sa,.int .i64 ra] #[.int .i64 kb,.int .i64 nb,.float .f64 fb,.string sb,.int .i64 rb] #[.int .i64 0,.int .i64 0,.int .i64 0,.float .f64 0,.string {data:= #[]},.int .i64 0]
 generalize ((w.alloc (Obj.cells #[.int .i64 ka,.int .i64 na,.float .f64 fa,.string sa,.int .i64 ra] 153)).alloc (Obj.cells #[.int .i64 kb,.int .i64 nb,.float .f64 fb,.string sb,.int .i64 rb] 153)).alloc (Obj.cells #[.int .i64 0,.int .i64 0,.int .i64 0,.float .f64 0,.string {data:= #[]},.int .i64 0] 207)=w0' at*
 refine (valueOk_any ka na fa sa ra _).mono ?_
 rintro e w1 ⟨⟨xa,rfl,hxa⟩,o1⟩
 have T1:Hid _:=on3 T0.out o1
 clear o1
 have HXa:Hid _:=hxa
 clear hxa
 have ac0:=Blk.at_ T1.out.2.1 0 rfl
 have ac1:=Blk.at_ T1.out.2.1 1 rfl
 have ac2:=Blk.at_ T1.out.2.1 2 rfl
 have ac3:=Blk.at_ T1.out.2.1 3 rfl
 have ac4:=Blk.at_ T1.out.2.1 4 rfl
 have az:=Blk.lt T1.out.2.1
 have bc0:=Blk.at_ T1.out.2.2.1 0 rfl
 have bc1:=Blk.at_ T1.out.2.2.1 1 rfl
 have bc2:=Blk.at_ T1.out.2.2.1 2 rfl
 have bc3:=Blk.at_ T1.out.2.2.1 3 rfl
 have bc4:=Blk.at_ T1.out.2.2.1 4 rfl
 have bz:=Blk.lt T1.out.2.2.1
 cases xa
 ·exact J5
 have sza:sa.size<=4000:=HXa.out rfl
 go_wp2_with fail
 clear ac0 ac1 ac2 ac3 ac4 bc0 bc1 bc2 bc3 bc4 az bz
 refine (valueOk_any kb nb fb sb rb _).mono ?_
 rintro e w2 ⟨⟨xb,rfl,hxb⟩,o2⟩
 have T2:Hid _:=on3 T1.out o2
 clear o2
 have HXb:Hid _:=hxb
 clear hxb
 have ac0:=Blk.at_ T2.out.2.1 0 rfl
 have ac1:=Blk.at_ T2.out.2.1 1 rfl
 have ac2:=Blk.at_ T2.out.2.1 2 rfl
 have ac3:=Blk.at_ T2.out.2.1 3 rfl
 have ac4:=Blk.at_ T2.out.2.1 4 rfl
 have az:=Blk.lt T2.out.2.1
 have bc0:=Blk.at_ T2.out.2.2.1 0 rfl
 have bc1:=Blk.at_ T2.out.2.2.1 1 rfl
 have bc2:=Blk.at_ T2.out.2.2.1 2 rfl
 have bc3:=Blk.at_ T2.out.2.2.1 3 rfl
 have bc4:=Blk.at_ T2.out.2.2.1 4 rfl
 have bz:=Blk.lt T2.out.2.2.1
 cases xb
 ·exact J3
 have szb:sb.size<=4000:=HXb.out rfl
 go_wp2_with fail
 clear ac0 ac1 ac2 ac3 ac4 bc0 bc1 bc2 bc3 bc4 az bz
 refine (l1num_any ka na fa sa ra _).mono ?_
 rintro e w3 ⟨rfl,o3⟩
 have T3:Hid _:=on3 T2.out o3
 clear o3
 have ac0:=Blk.at_ T3.out.2.1 0 rfl
 have ac1:=Blk.at_ T3.out.2.1 1 rfl
 have ac2:=Blk.at_ T3.out.2.1 2 rfl
 have ac3:=Blk.at_ T3.out.2.1 3 rfl
 have ac4:=Blk.at_ T3.out.2.1 4 rfl
 have az:=Blk.lt T3.out.2.1
 have bc0:=Blk.at_ T3.out.2.2.1 0 rfl
 have bc1:=Blk.at_ T3.out.2.2.1 1 rfl
 have bc2:=Blk.at_ T3.out.2.2.1 2 rfl
 have bc3:=Blk.at_ T3.out.2.2.1 3 rfl
 have bc4:=Blk.at_ T3.out.2.2.1 4 rfl
 have bz:=Blk.lt T3.out.2.2.1
 go_wp2_with fail
 clear ac0 ac1 ac2 ac3 ac4 bc0 bc1 bc2 bc3 bc4 az bz
 refine (l1num_any kb nb fb sb rb _).mono ?_
 rintro e w4 ⟨rfl,o4⟩
 have T4:Hid _:=on3 T3.out o4
 clear o4
 have ac0:=Blk.at_ T4.out.2.1 0 rfl
 have ac1:=Blk.at_ T4.out.2.1 1 rfl
 have ac2:=Blk.at_ T4.out.2.1 2 rfl
 have ac3:=Blk.at_ T4.out.2.1 3 rfl
 have ac4:=Blk.at_ T4.out.2.1 4 rfl
 have az:=Blk.lt T4.out.2.1
 have bc0:=Blk.at_ T4.out.2.2.1 0 rfl
 have bc1:=Blk.at_ T4.out.2.2.1 1 rfl
 have bc2:=Blk.at_ T4.out.2.2.1 2 rfl
 have bc3:=Blk.at_ T4.out.2.2.1 3 rfl
 have bc4:=Blk.at_ T4.out.2.2.1 4 rfl
 have bz:=Blk.lt T4.out.2.2.1
 exact J238):p:=h
theorem J27 (h:p:=by
 rw[hq0]
 have x0:Hid _:=hq0
 clear hq0
 cases q0
 ·
  exact J10
 ·
  have ⟨t0,c0,c1,c2,c3,c4,c5,c6,c7,c8,c9⟩:=T
  go_wp2_with fail
  clear t0 c0 c1 c2 c3 c4 c5 c6 c7 c8 c9
  exact J225):p:=h
theorem J28 (h:p:=by
 go_ret
 exact ⟨rtb (by rw[x0.out,x1.out,x2.out,x3.out] <;> first|rfl|exact beq_false_of_ne (by assumption)|exact beq_false_of_ne (by omega)|exact decide_eq_false (by omega)|(show _=true;simp;done)|(show _=true;simp;omega)|(show _=false;simp;done)|(show _=false;simp;omega)),ob⟩):p:=h
theorem J29 (h:p:=by
 obtain ⟨t0,c0,c1,c2,c3,c4,c5,c6,c7,c8,c9⟩:=T
 go_wp2_with fail
 exact J2):p:=h
theorem J30 (h:p:=by
 replace B:=B.onw hb
 replace O:=O.trans hb
 clear hb bc
 have bc:=B.cell
 exact J4):p:=h
theorem J31 (h:p:=by
 refine wpAnyH_take (i:=11) (v:=?_) rfl (by kernel_rfl) (by kernel_rfl) (by kernel_rfl) (fun _ _ _ h=>h) (Or.inl ⟨by rfl,?_⟩) (by assumption) ?_
 rotate_left
 ·exact J229
 simp only[List.getElem_toArray,List.getElem_cons_succ,List.getElem_cons_zero,Act.put,List.setIfInBounds_toArray,List.set_cons_zero,List.set_cons_succ]
 refine wpAnyH_take (i:=12) (v:=?_) rfl (by kernel_rfl) (by kernel_rfl) (by kernel_rfl) (fun _ _ _ h=>h) (Or.inl ⟨by rfl,?_⟩) (by assumption) ?_
 rotate_left
 ·exact J229
 simp only[List.getElem_toArray,List.getElem_cons_succ,List.getElem_cons_zero,Act.put,List.setIfInBounds_toArray,List.set_cons_zero,List.set_cons_succ]
 refine wpAnyH_take (i:=13) (v:=?_) rfl (by kernel_rfl) (by kernel_rfl) (by kernel_rfl) (fun _ _ _ h=>h) (Or.inl ⟨by rfl,?_⟩) (by assumption) ?_
 rotate_left
 ·exact J229
 simp only[List.getElem_toArray,List.getElem_cons_succ,List.getElem_cons_zero,Act.put,List.setIfInBounds_toArray,List.set_cons_zero,List.set_cons_succ]
 refine wpAnyH_ready (rs:= [14]) (by kernel_rfl) (by simp) ?_
 refine AllReadyH.cons rfl (fun K hK=>?_) ?_
 ·simp only[gA,gB,gC]
  go_simp
  refine hK.out _ _ trivial (fun hHeld=>?_)
  clear hK K
  try simp only[List.getElem_toArray,List.getElem_cons_succ,List.getElem_cons_zero,Act.put,List.setIfInBounds_toArray,List.set_cons_zero,List.set_cons_succ]
  refine wpAnyH_done (by kernel_rfl) ?_ _
  go_wp2_with fail
  go_meet
  case rel=>
   obtain ⟨q1,q2⟩:=(H8.out.onw (Below.drew (Onw.refl w8))).closeL (m:=lq) (lp':=lp) (rs':=rs) HVA.out (by rw[LEN8.out];have:=HLQ.out;omega) (fun k hk=>(if_neg (by have:=HLQ.out;omega)).symm) (fun k hk=>(if_neg (by have:=HLQ.out;omega)).symm)
   exact ⟨_,_,q1,(Fr.onw (Below.drew (Onw.refl w8))).trans q2,fun j hj=>if_neg hj,by rw[<-HLQ.out];exact if_pos rfl⟩
 exact AllReadyH.nil):p:=h
theorem J32 (h:p:=by
 refine AllReadyH.cons rfl (fun K hK=>?_) ?_
 ·simp only[gA,gB,gC]
  go_simp
  refine hK.out _ _ (by go_keep) (fun hHeld=>?_)
  clear hK K
  try simp only[gA,gB,gC,Act.put,gD,gE,gF]
  refine rd [18] ?_
  refine AllReadyH.cons rfl (fun K hK=>?_) ?_
  ·refine step_app (by rfl) (.tmp 43) (.tmp 56) 44 (by rfl) w0.heap.size 75 n0 _ 9 128 Tryz.underlying44 hn0 hz0 hz1 hz2 rfl (by decide) (V1 2) (R1 2).length (R1 2).flatten (by rfl) ((World.ownsRow.drew hx).alloc _) ⟨wA.heap.size,0,none⟩ 1 1 [.int .i64 (R 3).length,.string name,.int .i64 (pm i).line,.int .i64 (pm i).nn,.bool ((pm i).op==1),.slice none 0 0,.slice none 0 0,.slice none 0 0,.int .i64 0] (by rfl) (by rfl) (fun q u hq=>by rw[Go.WideShapes.add_plain];exact (Blk.cell N2 (0+q)).trans (by rw[Nat.zero_add];simpa using hq)) (by simp[Value.oneCell']) (by decide) (by simp only[maxLen];omega) (by omega) (by simp;omega) ?_
   intro g2 cap2 w2 hown hgrow hwhere
   have B2:=(hgrow.block wp (by simp;omega) (fun e=>hne e.symm)).trans (Blk.onw ((Below.drew (Onw.refl wA)).trans (Onw.alloc wA.drew _)) B1)
   have bf2:=Blk.free B2
   have b22:w2.cell? ⟨wp,2,none⟩=some (V1 2):=by rw[Blk.cell B2];rfl
   have zw2:=Blk.lt B2
   refine hK.out _ _ ⟨hgrow.cell hHeld.1 (fun e=>hneP e.symm),hgrow.cell hHeld.2.1 (fun e=>hneP e.symm),hgrow.cell hHeld.2.2 (fun e=>hneP e.symm)⟩ (fun hHeld=>?_)
   clear hK K
   simp only[gA,gB,gC,Act.put,gD,gE,gF]
   refine tk 19 ?_
   refine tk 20 ?_
   refine rd [21] ?_
   refine AllReadyH.cons rfl (fun K hK=>?_) ?_
   ·simp only[gA,gB,gC]
    go_simp
    refine hK.out _ _ (by go_keep) (fun hHeld=>?_)
    clear hK K
    try simp only[gA,gB,gC,Act.put,gD,gE,gF]
    refine wpAnyH_done (by kernel_rfl) ?_ _
    obtain ⟨q1,q2⟩:=H1.out.openL (l:=l) L1.out ((Below.drew (Onw.refl wA)).trans (Onw.alloc wA.drew _)) hown hgrow hwhere
    have Q1:Hid _:=q1
    have Q2:Hid _:=q2
    clear q1 q2 hown hgrow hwhere B2 bf2 b22
    go_wp2_with fail
    go_meet
    case rel=>exact ⟨_,_,_,Q1.out,Q2.out,fun j hj=>if_neg hj,if_pos rfl⟩
   exact AllReadyH.nil
  exact AllReadyH.nil
 exact AllReadyH.nil):p:=h
theorem J33 (h:p:=by
 have f6:(x==95)=false:=by rw[beq_eq_false_iff_ne];omega
 have el:Hid (letterB x=false):=by show _=_;simp only[letterB,f0,f1,f2,f3,f6];rfl
 have ed:Hid (digitB x=false):=by show _=_;unfold digitB;simp;omega
 clear rg
 rcases kz with kz|kz
 ·exact J233
 ·go_wp2_with fail
  go_ret
  exact ⟨rtb (by rw[fin.out,HQ.out,st.out,el.out,ed.out,kz];rfl),Onw.refl _⟩):p:=h
theorem J34 (h:p:=by
 have ⟨t0,c0,c1,c2,c3,c4,c5,c6,c7,c8,c9⟩:=T
 go_wp2_with fail
 clear t0 c0 c1 c2 c3 c4 c5 c6 c7 c8 c9
 exact J2):p:=h
theorem J35 (h:p:=by
 rw[hq1]
 have x1:Hid _:=hq1
 clear hq1
 cases q1
 ·
  exact J242
 ·
  exact J234):p:=h
theorem J36 (h:p:=by
 refine AllReadyH.cons rfl (fun K hK=>?_) ?_
 ·simp only[gA,gB,gC]
  go_simp
  refine hK.out _ _ (by go_keep) (fun hHeld=>?_)
  clear hK K
  try simp only[gA,gB,gC,Act.put,gD,gE,gF]
  refine rd [10] ?_
  refine AllReadyH.cons rfl (fun K hK=>?_) ?_
  ·refine step_app (by rfl) (.tmp 337) (.tmp 345) 64 (by rfl) (w.heap.size+2) 3 i2 _ 1 8 Tryz.underlying64 hi2 hy0 hy1 hy2 rfl (by decide) (.slice oa 1 oc) 1 ol.flatten (by rfl) (World.ownsRow.alloc (World.ownsRow.drew hxo) _) ⟨wB.heap.size,0,none⟩ 1 1 [.int .i64 vq] (by rfl) (by rfl) (fun j u hj=>by rw[Go.WideShapes.add_plain];exact (Blk.cell N (0+j)).trans (by rw[Nat.zero_add];simpa using hj)) (by simp[Value.oneCell']) (by decide) (by simp only[maxLen];omega) (by omega) (by simp;omega) ?_
   intro g10 cap10 w10 hown hgrow hwhere
   obtain ⟨ap1,ap2⟩:=SB.out.app RA.out RB.out RC.out ((Below.drew (Onw.refl wB)).trans (Onw.alloc wB.drew _)) hown hgrow hwhere
   have n62:=Blk.at_ ap1.nb 6 rfl
   have nf2:=Blk.free ap1.nb
   have nz2:=Blk.lt ap1.nb
   have v52:w10.cell? ⟨g',l*9+1+4,none⟩=some (.slice (some ⟨g2,0,none⟩) (vq+1:Nat) cap2):=hgrow.cell (con ((Below.drew (Onw.refl wB)).trans (Onw.alloc wB.drew _)) v5) (fun e=>hneG e.symm)
   have zg2:=clt v52
   have sm:=ap1.setN 6 (.slice (some ⟨g10,0,none⟩) 2 cap10)
   simp only[List.setIfInBounds_toArray,List.set_cons_zero,List.set_cons_succ] at sm
   have SM:Hid _:=sm
   clear ap1 ap2 hown hgrow hwhere sm n6 nz v5 zg N hxo
   refine hK.out _ _ v52 (fun hHeld=>?_)
   clear hK K
   try simp only[gA,gB,gC,Act.put,gD,gE,gF]
   refine tk 11 ?_
   refine rd [12] ?_
   refine AllReadyH.cons rfl (fun K hK=>?_) ?_
   ·simp only[gA,gB,gC]
    go_simp
    refine hK.out _ _ (by go_keep) (fun hHeld=>?_)
    clear hK K
    try simp only[gA,gB,gC,Act.put,gD,gE,gF]
    refine wpAnyH_done (by kernel_rfl) ?_ _
    go_wp2_with fail
    go_meet
    case rel=>exact ⟨g10,cap10,_,V6,R2,SM.out⟩
   exact AllReadyH.nil
  exact AllReadyH.nil
 exact AllReadyH.nil):p:=h
theorem J37 (h:p:=by
 obtain ⟨kb,ko,hka,hcc⟩:=(hm.onw ob).2 (show 0 < nk by omega)
 simp only at hka
 subst hka
 have k0:=hcc j hlt
 simp only at k0
 have z2:=clt k0
 clear hcc
 have st:Hid (allB (fun j=>decide (0<=kd j)&&decide (kd j < (i:Int))) j (nk-j)=((decide (0<=kd j)&&decide (kd j < (i:Int)))&&allB (fun j=>decide (0<=kd j)&&decide (kd j < (i:Int))) (j+1) (nk-(j+1)))):=by
  show _=_
  rw[show nk-j=(nk-(j+1))+1 from by omega];rfl
 obtain ⟨x,hx⟩:∃x,kd j=x:=⟨_,rfl⟩
 rw[hx] at k0
 have HX:Hid _:=hx
 clear hx
 obtain ⟨t0,d0,d1,d2,d3,d4,d5,d6,d7,d8,d9⟩:=T
 by_cases y0:0<=x
 ·by_cases y1:x < (i:Int)
  ·go_wp2_with fail
   go_roundw
   case rel=>exact ⟨j+1,by omega,by go_num,ob,⟨t0,d0,d1,d2,d3,d4,d5,d6,d7,d8,d9⟩,fun k hk1=>by
    by_cases hkj:k=j
    ·subst hkj;rw[HX.out];exact ⟨y0,y1⟩
    ·exact HI.out k (by omega),by rw[HQ.out,st.out,HX.out,decide_eq_true y0,decide_eq_true y1];rfl⟩
   case measure=>simp[intOf];omega
  ·go_wp2_with fail
   go_ret
   exact ⟨rtb (by rw[fin2.out,HQ.out,st.out,HX.out,decide_eq_false (show¬x < (i:Int) by omega)];simp),ob⟩
 ·go_wp2_with fail
  go_ret
  exact ⟨rtb (by rw[fin2.out,HQ.out,st.out,HX.out,decide_eq_false (show¬0<=x by omega)];simp),ob⟩):p:=h
theorem J38 (h:p:=by rw[h];exact rolesOf_s (fun v0 v1 v2 v3 v4 v5 v6 v7 v8 v9 v10 v11 w=>by kernel_rfl) (by decide) (by decide) (by decide) (by decide) (by decide) (by decide) (by decide) (by decide)):p:=h
theorem J39 (h:p:=by
 unfold MethOk at mt
 go_enter Tryz.func44,Tryz.ntmps44
 go_wp2_with fail
 go_region_held3 (fun w'=>w'.cell? ⟨rp,0,none⟩=some (.pointer (some ⟨s.sb,0,none⟩))/\w'.cell? ⟨s.sb,1,none⟩=some (.int .i64 s.fn)) (go_keep)
  (first
   |(go_at_call 154;refine (top_any m i kk (n+1) (n+1) _).mono ?_;rintro e w1 ⟨rfl,O1⟩;have o1:=(show Onw w w1 from Onw.trans (Below.drew (Onw.refl _)) O1);have c0:=con o1 b0;have c1:=con o1 b1)
   |(go_at_call 71;refine (readLast_any (mb:=mb) m i kk n s.fn l hn hnn HHV.out HHS.out HOK.out (HH.out.onw o1) HLV.out HHL.out HHM.out (fun t h1 h2 h3=>HLV.out.push h1 (h2.trans HHL.out.symm) h3) HHF.out (HHF.out n (by omega) s List.mem_cons_self) HHZ.out HLEN.out HSAME.out).mono ?_;rintro e w2 ⟨rfl,P2⟩;have HP2:Hid _:=P2.onw o1;have d0:w2.cell? ⟨rp,0,none⟩=some (.pointer (some ⟨s.sb,0,none⟩)):=rdpost_cell0 P2;have d1:w2.cell? ⟨s.sb,1,none⟩=some (.int .i64 s.fn):=rdpost_cell1 P2;clear P2))
 exact J241):p:=h
theorem J40 (h:p:=by
 go_enter Tryz.func108,Tryz.ntmps108
 go_wp2_with fail
 have T0:Hid _:=st3 w 153 153 207 #[.int .i64 ka,.int .i64 na,.float .f64 fa,.string sa,.int .i64 ra] #[.int .i64 kb,.int .i64 nb,.float .f64 fb,.string sb,.int .i64 rb] #[.int .i64 0,.int .i64 0,.int .i64 0,.float .f64 0,.string {data:= #[]},.int .i64 0]
 generalize ((w.alloc (Obj.cells #[.int .i64 ka,.int .i64 na,.float .f64 fa,.string sa,.int .i64 ra] 153)).alloc (Obj.cells #[.int .i64 kb,.int .i64 nb,.float .f64 fb,.string sb,.int .i64 rb] 153)).alloc (Obj.cells #[.int .i64 0,.int .i64 0,.int .i64 0,.float .f64 0,.string {data:= #[]},.int .i64 0] 207)=w0' at*
 refine (valueOk_any ka na fa sa ra _).mono ?_
 rintro e w1 ⟨⟨xa,rfl,hxa⟩,o1⟩
 have T1:Hid _:=on3 T0.out o1
 clear o1
 have HXa:Hid _:=hxa
 clear hxa
 have ac0:=Blk.at_ T1.out.2.1 0 rfl
 have ac1:=Blk.at_ T1.out.2.1 1 rfl
 have ac2:=Blk.at_ T1.out.2.1 2 rfl
 have ac3:=Blk.at_ T1.out.2.1 3 rfl
 have ac4:=Blk.at_ T1.out.2.1 4 rfl
 have az:=Blk.lt T1.out.2.1
 have bc0:=Blk.at_ T1.out.2.2.1 0 rfl
 have bc1:=Blk.at_ T1.out.2.2.1 1 rfl
 have bc2:=Blk.at_ T1.out.2.2.1 2 rfl
 have bc3:=Blk.at_ T1.out.2.2.1 3 rfl
 have bc4:=Blk.at_ T1.out.2.2.1 4 rfl
 have bz:=Blk.lt T1.out.2.2.1
 cases xa
 ·exact J5
 have sza:sa.size<=4000:=HXa.out rfl
 go_wp2_with fail
 clear ac0 ac1 ac2 ac3 ac4 bc0 bc1 bc2 bc3 bc4 az bz
 refine (valueOk_any kb nb fb sb rb _).mono ?_
 rintro e w2 ⟨⟨xb,rfl,hxb⟩,o2⟩
 have T2:Hid _:=on3 T1.out o2
 clear o2
 have HXb:Hid _:=hxb
 clear hxb
 have ac0:=Blk.at_ T2.out.2.1 0 rfl
 have ac1:=Blk.at_ T2.out.2.1 1 rfl
 have ac2:=Blk.at_ T2.out.2.1 2 rfl
 have ac3:=Blk.at_ T2.out.2.1 3 rfl
 have ac4:=Blk.at_ T2.out.2.1 4 rfl
 have az:=Blk.lt T2.out.2.1
 have bc0:=Blk.at_ T2.out.2.2.1 0 rfl
 have bc1:=Blk.at_ T2.out.2.2.1 1 rfl
 have bc2:=Blk.at_ T2.out.2.2.1 2 rfl
 have bc3:=Blk.at_ T2.out.2.2.1 3 rfl
 have bc4:=Blk.at_ T2.out.2.2.1 4 rfl
 have bz:=Blk.lt T2.out.2.2.1
 cases xb
 ·exact J3
 have szb:sb.size<=4000:=HXb.out rfl
 exact J3):p:=h
theorem J41 (h:p:=by
 rw[hq2]
 have x2:Hid _:=hq2
 clear hq2
 cases q2
 ·
  exact J243
 ·
  exact J227):p:=h
theorem J42 (h:p:=by
 obtain ⟨b,off,rfl,hc⟩:=ha.onw hb (by omega)
 have hck:=hc k hlt
 have hf:=hbl.free k
 have hg:wr.cell? ⟨w.heap.size,k,none⟩=some (cur[k]'(by rw[HS.out];exact hlt)):=by rw[hbl.cell];simp[HS.out,hlt]
 clear hc
 go_wp2
 go_roundw
 case rel=>
  refine ⟨k+1,by omega,by go_num,?_,_,hbl.set k _,by rw[size_set];exact HS.out,fun i hi=>?_⟩
  ·exact hb.setCell (Nat.le_refl _) _
  ·by_cases e:k=i
   ·subst e;rw[get_set_same (by rw[HS.out];exact hlt)]
   ·rw[get_set_other e];exact HC.out i (by omega)
 case measure=>simp[intOf];omega):p:=h
theorem J43 (h:p:=by
 have k23:((pm i).kind==23)=false:=by rw[beq_eq_false_iff_ne];omega
 have k24:((pm i).kind==24)=false:=by rw[beq_eq_false_iff_ne];omega
 have k25:((pm i).kind==25)=false:=by rw[beq_eq_false_iff_ne];omega
 have k26:((pm i).kind==26)=false:=by rw[beq_eq_false_iff_ne];omega
 have k30:((pm i).kind==30)=false:=by rw[beq_eq_false_iff_ne];omega
 have k31:((pm i).kind==31)=false:=by rw[beq_eq_false_iff_ne];omega
 have k28:((pm i).kind==28)=false:=by rw[beq_eq_false_iff_ne];omega
 have k29:((pm i).kind==29)=false:=by rw[beq_eq_false_iff_ne];omega
 clear h hs hsf ha hpc htv hpa hk
 go_enter Tryz.func83,Tryz.ntmps83
 go_wp2_with fail
 have F0:Hid (Fx w _ #[.int .i64 (pm i).kind,.int .i64 (pm i).frm,.int .i64 (pm i).tto,.int .i64 (pm i).line,.int .i64 (pm i).op,.int .i64 (pm i).num,.float .f64 (pm i).flt,.string (pm i).text,.slice (pm i).na (pm i).nn (pm i).nc,.slice (pm i).ka (pm i).nk (pm i).kc] #[.int .i64 i,.int .i64 1,.int .i64 0,.int .i64 0,.float .f64 0,.string {data:= #[]},.int .i64 0] #[.int .i64 i,.int .i64 0,.int .i64 0,.int .i64 0,.float .f64 0,.string {data:= #[]},.int .i64 0]):=Fx.start w _ _ _
 generalize (((w.alloc (Obj.cells #[.int .i64 0,.int .i64 0,.int .i64 0,.int .i64 0,.float .f64 0,.string {data:= #[]},.int .i64 0] 157)).alloc (Obj.cells #[.int .i64 (pm i).kind,.int .i64 (pm i).frm,.int .i64 (pm i).tto,.int .i64 (pm i).line,.int .i64 (pm i).op,.int .i64 (pm i).num,.float .f64 (pm i).flt,.string (pm i).text,.slice (pm i).na (pm i).nn (pm i).nc,.slice (pm i).ka (pm i).nk (pm i).kc] 67)).alloc (Obj.cells #[.int .i64 i,.int .i64 1,.int .i64 0,.int .i64 0,.float .f64 0,.string {data:= #[]},.int .i64 0] 157)).alloc (Obj.cells #[.int .i64 i,.int .i64 0,.int .i64 0,.int .i64 0,.float .f64 0,.string {data:= #[]},.int .i64 0] 157)=wF at*
 clear zc b0 zb c0 c1 c2 c3 c4 c5 c6 c7 c8 c9
 refine (l1bool_any _ _).mono ?_
 exact J15):p:=h
theorem J44 (h:p:=by rw[h];exact rolesOf_e (fun v0 v1 v2 v3 v4 v5 v6 v7 v8 v9 v10 v11 w=>by kernel_rfl) (by decide) (by decide) (by decide) (by decide) (by decide) (by decide) (by decide) (by decide)):p:=h
theorem J45 (h:p:=by
 go_wp2_with fail
 go_ret
 exact ⟨rfl,by first|exact Onw.refl _|exact Onw.alloc _ _|exact (Onw.alloc _ _).trans (Onw.alloc _ _)⟩):p:=h
theorem J46 (h:p:=by exact J242):p:=h
theorem J47 (h:p:=by exact J220):p:=h
theorem J48 (h:p:=by
 obtain ⟨hn,hk,hnn,htx,hr,hz,ht,hm⟩:=H
 dsimp only at hk hnn htx hr hz
 have T:=Two.new w pa np pc 30 F G L O N X S na nn nc ka 1 kc
 have ob:=Two.start w pa np pc 30 F G L O N X S na nn nc ka 1 kc
 go_enter Tryz.func39,Tryz.ntmps39
 go_wp2_with fail
 refine (l6exprs_any ⟨np,pm,pa,pc⟩ ⟨⟨30,F,G,L,O,N,X,S,nn,nm,1,kd⟩,na,nc,ka,kc⟩ 0 1 _ hn (by omega) (by dsimp only;omega) hk hr (TM.At.onw ob ht) (hm.2.onw ob)).mono ?_
 rintro e w1 ⟨rfl,O1⟩
 replace T:=T.onw O1
 replace ob:=ob.trans O1
 clear O1
 obtain ⟨q0,hq0⟩:∃q,exprsP (pdOf pm) (⟨30,F,G,L,O,N,X,S,nn,nm,1,kd⟩:PD) 0 1=q:=⟨_,rfl⟩
 rw[hq0]
 have x0:Hid _:=hq0
 clear hq0
 cases q0
 ·
  exact J29
 ·
  have ⟨t0,c0,c1,c2,c3,c4,c5,c6,c7,c8,c9⟩:=T
  go_wp2_with fail
  clear t0 c0 c1 c2 c3 c4 c5 c6 c7 c8 c9
  refine (l6bare_any ⟨⟨30,F,G,L,O,N,X,S,nn,nm,1,kd⟩,na,nc,ka,kc⟩ _ true false false false (by decide)).mono ?_
  rintro e w1 ⟨rfl,O1⟩
  replace T:=T.onw O1
  replace ob:=ob.trans O1
  clear O1
  obtain ⟨q1,hq1⟩:∃q,bareP (⟨30,F,G,L,O,N,X,S,nn,nm,1,kd⟩:PD) true false false false=q:=⟨_,rfl⟩
  exact J228):p:=h
theorem J49 (h:p:=by
 obtain ⟨hn,hk,hnn,htx,hr,hz,ht,hm⟩:=H
 dsimp only at hk hnn htx hr hz
 have T:=Two.new w pa np pc 31 F G L O N X S na nn nc ka 2 kc
 have ob:=Two.start w pa np pc 31 F G L O N X S na nn nc ka 2 kc
 go_enter Tryz.func39,Tryz.ntmps39
 go_wp2_with fail
 refine (l6exprs_any ⟨np,pm,pa,pc⟩ ⟨⟨31,F,G,L,O,N,X,S,nn,nm,2,kd⟩,na,nc,ka,kc⟩ 0 2 _ hn (by omega) (by dsimp only;omega) hk hr (TM.At.onw ob ht) (hm.2.onw ob)).mono ?_
 rintro e w1 ⟨rfl,O1⟩
 replace T:=T.onw O1
 replace ob:=ob.trans O1
 clear O1
 obtain ⟨q0,hq0⟩:∃q,exprsP (pdOf pm) (⟨31,F,G,L,O,N,X,S,nn,nm,2,kd⟩:PD) 0 2=q:=⟨_,rfl⟩
 rw[hq0]
 have x0:Hid _:=hq0
 clear hq0
 cases q0
 ·
  exact J29
 ·
  have ⟨t0,c0,c1,c2,c3,c4,c5,c6,c7,c8,c9⟩:=T
  go_wp2_with fail
  clear t0 c0 c1 c2 c3 c4 c5 c6 c7 c8 c9
  refine (l6bare_any ⟨⟨31,F,G,L,O,N,X,S,nn,nm,2,kd⟩,na,nc,ka,kc⟩ _ true false false false (by decide)).mono ?_
  rintro e w1 ⟨rfl,O1⟩
  replace T:=T.onw O1
  replace ob:=ob.trans O1
  clear O1
  obtain ⟨q1,hq1⟩:∃q,bareP (⟨31,F,G,L,O,N,X,S,nn,nm,2,kd⟩:PD) true false false false=q:=⟨_,rfl⟩
  exact J228):p:=h
theorem J50 (h:p:=by
 go_wp2_with fail
 refine (decimal_any _ _ (cv_range _ _).1 (cv_range _ _).2).mono ?_
 rintro e' w7 ⟨⟨s1,rfl,hs1⟩,o7⟩
 have O7:Hid (Onw w w7):=Onw.trans (Onw.trans O6.out (cvD_onw _ _)) o7
 clear o7
 have z1:(s'++s1).size<=21:=by rw[ByteArray.size_append];omega
 have z2:(s'++s1++{data:= #[112]}).size<=22:=by rw[ByteArray.size_append];show (s'++s1).size+1<=22;omega
 go_wp2_with fail
 refine (decimal_any e2 _ (by omega) (by omega)).mono ?_
 rintro e' w8 ⟨⟨s2,rfl,hs2⟩,o8⟩
 have O8:Hid (Onw w w8):=Onw.trans O7.out o8
 clear o8
 go_wp2_with fail
 go_ret
 exact ⟨⟨_,rfl,by rw[ByteArray.size_append];omega⟩,O8.out⟩):p:=h
theorem J51 (h:p:=by
 have fin:Hid (nameS l i (pm i).text write s=((nameA l (pm i).text write s).use i (useK s l (pm i).text).1 (useK s l (pm i).text).2.1 (useK s l (pm i).text).2.2)):=by show _=_;unfold nameS nameF;rw[e];cases write <;> rfl
 have e0:((useK s l (pm i).text).1==0)=_:=congrArg (·==(0:Int)) e
 have e3:((useK s l (pm i).text).1==3)=_:=congrArg (·==(3:Int)) e
 have e4:((useK s l (pm i).text).1==4)=_:=congrArg (·==(4:Int)) e
 simp only[Int.reduceBEq] at e0 e3 e4
 clear e
 cases write
 ·exact J226
 ·exact J226):p:=h
theorem J52 (h:p:=by
 have el:Hid (letterB x=true):=by show _=_;simp only[letterB,f0,f1,f2,f3,f6];rfl
 have ed:Hid (digitB x=false):=by show _=_;unfold digitB;simp;omega
 clear rg
 clear kz
 go_wp2_with fail
 go_roundw
 case rel=>exact ⟨k+1,by omega,by go_num,by first|rfl|trivial,by rw[HQ.out,st.out,el.out];rfl⟩
 case measure=>simp[intOf];omega):p:=h
theorem J53 (h:p:=by
 rintro e w2 ⟨rfl,hb⟩
 exact J244):p:=h
theorem J54 (h:p:=by
 obtain ⟨e1,e2,e3,e4,e5,e6,e16,e7,e8,e9,e10,e11,e12,e13,e14,e15,e20,e21,e22,e23,e24,e25,e26,e27,e28,e29,e30,e31,e32,e33,e34,e35,e36,e37,e40,e41,e42⟩:=h3
 symm
 rw[<-Bool.not_eq_true]
 simp
 omega):p:=h
theorem J55 (h:p:=by
 go_enter Tryz.func39,Tryz.ntmps39
 go_wp2_with fail
 exact J2):p:=h
theorem J56 (h:p:=by
 go_wp2_with fail
 refine (usesOnly_any m p kk kn kc 0 _ false false false false false (by simp)).mono ?_
 rintro e w1 ⟨rfl,hb⟩
 replace B:=B.onw hb
 replace O:=O.trans hb
 clear hb bc
 have bc:=B.cell
 cases h0:usesP m.toPD false false false false false
 ·exact J4
 ·exact J230):p:=h
theorem J57 (h:p:=by
 go_wp2_with fail
 exact bodyPost_ret (v:= .agg #[.int .i64 i,.int .i64 1,.int .i64 0,.int .i64 0,.float .f64 0,.string {data:= #[]},.int .i64 0]) (by simp[results,Tryz.results83,go_sem,y0,y1,y2,y3,y4,y5,y6]) rfl ⟨⟨⟨1,0,0,0,{data:= #[]},0⟩,rfl,Vok.zero⟩,bset (bset (bset (bset (bset (bset (bset (F3.out.o) (by omega) _) (by omega) _) (by omega) _) (by omega) _) (by omega) _) (by omega) _) (by omega) _⟩):p:=h
theorem J58 (h:p:=by exact J243):p:=h
theorem J59 (h:p:=by
 obtain ⟨r',hm,hr1,hr2⟩:=pos_two pg
 have hm':floatBits .mul .f64 g 4611686018427387904=some r':=hm
 have e1:=fun w=>flR_some (w:=w) hm'
 have e3:=fun w=>flD_some (w:=w) hm'
 have PR:Hid (Pos r'/\rung r'=r'):=Pos.of (by omega) (by omega)
 have RLG:Hid (rung g < r'):=hr1
 clear hm hm' pg
 go_wp2_with fail
 go_roundw
 case rel=>exact ⟨r',e+1,rfl,by first|rfl|go_num,PR.out.1,by omega,by rw[PR.out.2];omega,O4'.out⟩
 case measure=>
  show 9218868437227405312-rung r' < 9218868437227405312-rung g
  rw[PR.out.2]
  have:=RLG.out
  omega):p:=h
theorem J60 (h:p:=by
 go_wp2
 go_loopw [5] (fun i wr=>∃k:Nat,k<=n/\i= .int .i64 k/\Onw w wr) (fun i _=>n-(intOf i).toNat)
 case atStart=>exact ⟨0,Nat.zero_le _,rfl,Onw.refl _⟩
 case round=>
  obtain ⟨k,hk,rfl,hb⟩:=hrel
  by_cases hlt:k < n
  ·obtain ⟨b,off,rfl,hc⟩:=ha.onw hb (by omega)
   obtain ⟨b',off',rfl,hc'⟩:=ha'.onw hb (by omega)
   have h1:=hc k hlt
   have h2:=hc' k hlt
   have hi:(k:Int) < (n:Int):=by omega
   have hi0:(0:Int)<=(k:Int):=by omega
   clear hc hc'
   go_wp2
   go_quiet (fail)
   go_wp2
   go_roundw
   case rel=>exact ⟨k+1,by omega,by go_num,onw_drewN hb _⟩
   case measure=>simp[intOf];omega
  ·go_wp2
   go_ret
   exact ⟨rfl,hb⟩):p:=h
theorem J61 (h:p:=by
 have T:=Two.new w pa np pc 5 F G L O N X S na nn nc ka nk kc
 have ob:=Two.start w pa np pc 5 F G L O N X S na nn nc ka nk kc
 go_enter Tryz.func38,Tryz.ntmps38
 go_wp2_with fail
 refine (l6bare_any ⟨⟨5,F,G,L,O,N,X,S,nn,nm,nk,kd⟩,na,nc,ka,kc⟩ _ false true false false (by decide)).mono ?_
 rintro e w1 ⟨rfl,O1⟩
 replace T:=T.onw O1
 replace ob:=ob.trans O1
 clear O1
 obtain ⟨q0,hq0⟩:∃q,bareP (⟨5,F,G,L,O,N,X,S,nn,nm,nk,kd⟩:PD) false true false false=q:=⟨_,rfl⟩
 rw[hq0]
 have x0:Hid _:=hq0
 clear hq0
 obtain ⟨t0,c0,c1,c2,c3,c4,c5,c6,c7,c8,c9⟩:=T
 cases q0
 ·exact J239
 ·exact J239):p:=h
theorem J62 (h:p:=by
 obtain ⟨hn,hk,hnn,htx,hr,hz,ht,hm⟩:=H
 dsimp only at hk hnn htx hr hz
 have T:=Two.new w pa np pc 7 F G L O N X S na nn nc ka nk kc
 have ob:=Two.start w pa np pc 7 F G L O N X S na nn nc ka nk kc
 go_enter Tryz.func38,Tryz.ntmps38
 go_wp2_with fail
 refine (l6bare_any ⟨⟨7,F,G,L,O,N,X,S,nn,nm,nk,kd⟩,na,nc,ka,kc⟩ _ false false false false (by decide)).mono ?_
 rintro e w1 ⟨rfl,O1⟩
 replace T:=T.onw O1
 replace ob:=ob.trans O1
 clear O1
 obtain ⟨q0,hq0⟩:∃q,bareP (⟨7,F,G,L,O,N,X,S,nn,nm,nk,kd⟩:PD) false false false false=q:=⟨_,rfl⟩
 exact J240):p:=h
theorem J63 (h:p:=by
 rintro e w9 ⟨r,hr,rfl,hp⟩
 have HPP:Hid _:=hp
 clear hp
 go_wp2_with fail
 go_ret
 exact ⟨r,by omega,rfl,fin.out HPP.out⟩):p:=h
theorem J64 (h:p:=by
 have ⟨t0,c0,c1,c2,c3,c4,c5,c6,c7,c8,c9⟩:=T
 go_wp2_with fail
 clear t0 c0 c1 c2 c3 c4 c5 c6 c7 c8 c9
 refine (l6kid_any ⟨np,pm,pa,pc⟩ ⟨⟨7,F,G,L,O,N,X,S,nn,nm,3,kd⟩,na,nc,ka,kc⟩ 2 _ hn (by dsimp only;omega) hk (hr 2 (by omega)).1 (hr 2 (by omega)).2 (TM.At.onw ob ht) (hm.2.onw ob)).mono ?_
 rintro e w1 ⟨rfl,O1⟩
 replace T:=T.onw O1
 replace ob:=ob.trans O1
 clear O1
 rw[hq]
 exact J227):p:=h
theorem J65 (h:p:=by exact J229):p:=h
theorem J66 (h:p:=by
 have f2:decide ((65:Int)<=x)=true:=decide_eq_true (by omega)
 have f3:decide (x<=90)=false:=decide_eq_false (by omega)
 exact J232):p:=h
theorem J67 (h:p:=by
 go_wp2_with fail
 go_roundw
 case rel=>exact ⟨j+1,fd,by omega,by go_num,rfl,by omega,by omega,oC.trans (Onw.alloc _ _)⟩
 case measure=>simp[intOf];omega):p:=h
theorem J68 (h:p:=by
 have ⟨t0,c0,c1,c2,c3,c4,c5,c6,c7,c8,c9⟩:=T
 go_wp2_with fail
 clear t0 c0 c1 c2 c3 c4 c5 c6 c7 c8 c9
 exact J28):p:=h
theorem J69 (h:p:=by
 rintro e w9 ⟨r,hr,rfl,hp⟩
 have FIN:Hid _:=SG.out.fin (r:=r) hp (B2:=B+4000*sz i) (by omega) (Q:=fun s'=>Rel (pdOf pm) FX l (lp l) (rs l) i s s'/\Adds s s' l) ⟨REL.out,ADD.out⟩
 exact J22):p:=h
theorem J70 (h:p:=by
 rintro e w6 ⟨⟨c,rfl⟩,o6⟩
 have T6:Hid _:=T5.out.onw o6
 clear o6
 have ac0:=Blk.at_ T6.out.a 0 rfl
 have bc0:=Blk.at_ T6.out.b 0 rfl
 have ac1:=Blk.at_ T6.out.a 1 rfl
 have bc1:=Blk.at_ T6.out.b 1 rfl
 have ac2:=Blk.at_ T6.out.a 2 rfl
 have bc2:=Blk.at_ T6.out.b 2 rfl
 have ac3:=Blk.at_ T6.out.a 3 rfl
 have bc3:=Blk.at_ T6.out.b 3 rfl
 have ac4:=Blk.at_ T6.out.a 4 rfl
 have bc4:=Blk.at_ T6.out.b 4 rfl
 have az:=Blk.lt T6.out.a
 have bz:=Blk.lt T6.out.b
 exact J247):p:=h
theorem J71 (h:p:=by
 go_wp2_with fail
 go_ret
 exact ⟨r,by omega,rfl,P.out⟩):p:=h
theorem J72 (h:p:=by
 have h1:(m.op==0||m.op==1)=true:=by rw[o0,o1];rfl
 go_wp2_with fail
 refine (areNames_any _ _ _ m.nm _ hnn hz (hm.onw O)).mono ?_
 rintro e v2 ⟨rfl,rfl⟩
 cases h2:allB (fun i=>nameB (m.nm i)) 0 m.nn
 ·exact J4
 ·go_wp2_with fail
  refine (kidsAre_any m p kk kn kc q _ 1 _ (classF [2]) _ hn (hk.onw (O.trans (Onw.alloc _ _))) (by exact lay1 _ _ 2)).mono ?_
  rintro e w3 ⟨rfl,hb⟩
  exact J244):p:=h
theorem J73 (h:p:=by exact J240):p:=h
theorem J74 (h:p:=by
 have N:=Blk.new wr 5 #[.int .u8 (48+m%10)]
 rw[run_convert_bytes_string _ _ _ 5 _ _ _ Tryz.underlying116 Tryz.underlying5 Tryz.underlying9]
 have hl:=run_loadCells_list (P:=Tryz.prog) (wr.alloc (Obj.cells #[.int .u8 (48+m%10)] 5)) ⟨wr.heap.size,0,none⟩ ([48+m%10].map (Value.int .u8)) (fun j v hj=>by
  rw[Go.WideShapes.add_plain,N.cell,Nat.zero_add];simpa using hj)
 exact run_bytesToString _ _ 1 1 [48+m%10] hl):p:=h
theorem J75 (h:p:=by
 go_enter Tryz.func23,Tryz.ntmps23
 go_wp2_with fail
 go_ret
 exact ⟨rtb fin.out.symm,ob⟩):p:=h
theorem J76 (h:p:=by exact J222):p:=h
theorem J77 (h:p:=by
 go_wp2_with fail
 refine (kidsAre_any m p kk kn kc q _ 1 _ (classF [8]) _ hn (hk.onw (O.trans (Onw.alloc _ _))) (by exact lay1 _ _ 8)).mono ?_
 exact J53):p:=h
theorem J78 (h:p:=by
 simp only[gA,gB,gC]
 go_simp
 refine hK.out _ _ (by go_keep) (fun hHeld=>?_)
 clear hK K
 try simp only[gA,gB,gC,Act.put,gD,gE,gF]
 refine rd [10] ?_
 exact J7):p:=h
theorem J79 (h:p:=by
 go_enter Tryz.func14,Tryz.ntmps14
 go_wp2_with fail
 refine bodyPost_ret (v:= .agg #[.int .i64 1,.int .i64 0]) (by simp[results,Tryz.results14,go_sem]) rfl ?_
 exact ⟨rfl,(Onw.alloc _ _).trans (Onw.alloc _ _)⟩):p:=h
theorem J80 (h:p:=by
 go_wp2_with fail
 refine (usesOnly_any m p kk kn kc 0 _ false false false false false (by simp)).mono ?_
 rintro e w1 ⟨rfl,hb⟩
 replace B:=B.onw hb
 replace O:=O.trans hb
 clear hb bc
 have bc:=B.cell
 cases h0:usesP m.toPD false false false false false
 ·exact J4
 ·exact J231):p:=h
theorem J81 (h:p:=by
 obtain ⟨k,hk,rfl,hb,cur,hbl,hsz,hcur⟩:=hrel
 have HC:Hid _:=hcur
 have HS:Hid _:=hsz
 clear hcur hmk hsz
 by_cases hlt:k < n
 ·exact J42
 ·go_wp2
  go_ret
  have:k=n:=by omega
  subst this
  refine ⟨_,rfl,hb,fun _=>⟨_,0,rfl,fun i hi=>?_⟩,fun x hx=>by cases hx;exact Nat.le_refl _⟩
  rw[hbl.cell];simpa using HC.out i hi):p:=h
theorem J82 (h:p:=by
 intro i hi
 by_cases e:i=k
 ·subst e
  simp only[if_true]
  exact PM.At.kept (kept_setL _ _ _) (fun x hx=>by have:=f1 x hx;omega) (fun x hx=>by have:=f2 x hx;omega) ⟨i1,i2⟩
 ·simp only[e,if_false]
  have:=h6 i (by omega)
  exact PM.At.kept (kept_setL _ _ _) (fun x hx=>by have:=this.1 x hx;omega) (fun x hx=>by have:=this.2.1 x hx;omega) ((h5 i (by omega)).onw hb)):p:=h
theorem J83 (h:p:=by
 obtain ⟨t0,c0,c1,c2,c3,c4,c5,c6,c7,c8,c9⟩:=T
 go_wp2_with fail
 exact J28):p:=h
theorem J84 (h:p:=by
 obtain ⟨k,hk,rfl,hb,cur,hbl,hsz,hcur⟩:=hrel
 have HC:Hid _:=hcur
 have HS:Hid _:=hsz
 clear hcur hmk hsz
 by_cases hlt:k < n
 ·exact J42
 ·go_wp2
  go_ret
  have:k=n:=by omega
  subst this
  refine ⟨_,rfl,hb,fun _=>⟨_,0,rfl,fun i hi=>?_⟩,Nat.le_refl _,cur,hbl,HS.out⟩
  rw[hbl.cell];simpa using HC.out i hi):p:=h
theorem J85 (h:p:=by
 have e:=tr.szs i hi
 rw[hnk] at e
 simp only[psum] at e
 rw[ha0,ha1] at e
 simp at e
 omega):p:=h
theorem J86 (h:p:=by
 have S:=sh i hi
 show 0 < (pm i).nk\/((pm i).kind≠9/\(pm i).kind≠10/\(pm i).kind≠14/\(pm i).kind≠36)
 by_cases a:(pm i).kind=9
 ·have:=S.for_ a;omega
 by_cases b:(pm i).kind=10
 ·have:=S.each b;omega
 by_cases c:(pm i).kind=14
 ·have:=S.try_ c;omega
 by_cases d:(pm i).kind=36
 ·have:=S.fn d;omega
 exact Or.inr ⟨a,b,c,d⟩):p:=h
theorem J87 (h:p:=by
 rintro e w2 ⟨⟨t,rfl,ht⟩,o2⟩
 have T2:Hid _:=on1 T1.out o2
 clear o2
 have ac0:=Blk.at_ T2.out.2 0 rfl
 have ac1:=Blk.at_ T2.out.2 1 rfl
 have ac2:=Blk.at_ T2.out.2 2 rfl
 have ac3:=Blk.at_ T2.out.2 3 rfl
 have ac4:=Blk.at_ T2.out.2 4 rfl
 have az:=Blk.lt T2.out.2
 go_wp2_with fail
 go_ret
 exact ⟨⟨_,rfl,by omega⟩,T2.out.1⟩):p:=h
theorem J88 (h:p:=by exact J228):p:=h
theorem J89 (h:p:=by
 have hdf:decide (fd < 0)=false:=decide_eq_false hfd
 go_wp2_with fail
 go_roundw
 case rel=>exact ⟨k+1,fd,own1,V1,R1,by omega,Or.inl (by omega),rfl,by go_num,(hC.out.onw oC).more (by omega),FR1.out.trans (Fr.onw (oB.trans oC)),SR1.out⟩
 case measure=>simp[intOf];omega):p:=h
theorem J90 (h:p:=by
 show _<=_
 have h1:(m/10)*10<=m:=by omega
 have h2:(0:Int)<=10^s.size:=Int.pow_nonneg (by omega)
 have h3:(m/10)*10^(1+s.size)=(m/10)*10*10^s.size:=by rw[Int.pow_add];simp[Int.mul_assoc]
 rw[h3]
 exact Int.le_trans (Int.mul_le_mul_of_nonneg_right h1 h2) HLE.out):p:=h
theorem J91 (h:p:=by
 go_wp2_with fail
 go_roundw
 case rel=>exact ⟨j+1,by omega,by go_num,ob,T,by rw[HQ.out,st.out,hx];rfl⟩
 case measure=>simp[intOf];omega):p:=h
theorem J92 (h:p:=by
 subst y2;clear hq2
 exact J227):p:=h
theorem J93 (h:p:=by
 by_cases q0:q=0
 ·subst q0;exact Or.inl n1
 by_cases q1:q=1
 ·subst q1;exact Or.inr (Or.inl n2)
 rcases n3 with n3|⟨n3,n4⟩
 ·omega
 ·obtain rfl:q=2:=by omega
  rcases n4 with n4|n4
  ·exact Or.inr (Or.inl n4)
  ·exact Or.inr (Or.inr (Or.inl n4))):p:=h
theorem J94 (h:p:=by
 go_enter Tryz.func90,Tryz.ntmps90
 go_wp2_with fail
 go_quiet (fail)
 go_wp2_with fail
 go_ret
 exact ⟨by rw[HK.out];rfl,below_drewN (Onw.alloc _ _) _⟩):p:=h
theorem J95 (h:p:=by
 go_wp2_with fail
 all_goals go_ret
 all_goals exact ⟨⟨_,rfl,by decide⟩,T1.out.1⟩):p:=h
theorem J96 (h:p:=by
 clear hK K
 try simp only[gA,gB,gC,Act.put,gD,gE,gF]
 refine rd [8] ?_
 refine AllReadyH.cons rfl (fun K hK=>?_) ?_
 ·simp only[gA,gB,gC]
  go_simp
  refine hK.out _ _ (by exact Blk.onw (Onw.alloc w2 _) N2.out) (fun hHeld=>?_)
  exact J14
 exact AllReadyH.nil):p:=h
theorem J97 (h:p:=by
 rintro e w1 ⟨rfl,hb1⟩
 go_wp2_with fail
 go_ret
 exact ⟨rfl,by first|exact hb1|exact (Onw.alloc _ _).trans hb1⟩):p:=h
theorem J98 (h:p:=by rw[h];exact rolesOf_n (fun v0 v1 v2 v3 v4 v5 v6 v7 v8 v9 v10 v11 w=>by kernel_rfl) (by decide) (by decide) (by decide) (by decide) (by decide) (by decide) (by decide) (by decide)):p:=h
theorem J99 (h:p:=by
 rintro e w9 ⟨rfl,hp⟩
 have HP:Hid _:=hp
 clear hp
 go_wp2_with fail
 go_meet
 case rel=>rw[fin.out];obtain ⟨a1,a2,a3,a4,_⟩:=HM2.out.post HP.out rfl (HM2.out.at_.fault _ _);exact ⟨a1,a2,a3,a4⟩):p:=h
theorem J100 (h:p:=by
 go_wp2_with fail
 go_meet
 case rel=>exact ⟨rfl,_,rfl⟩):p:=h
theorem J101 (h:p:=by
 go_wp2_with fail
 all_goals go_ret
 all_goals exact ⟨⟨_,rfl,fun _=>rfl⟩,O1.out⟩):p:=h
theorem J102 (h:p:=by
 have e:=tr.szs i hi
 rw[hnk] at e
 simp only[psum] at e
 rw[ha0] at e
 simp at e
 omega):p:=h
theorem J103 (h:p:=by
 go_wp2_with fail
 refine (usesOnly_any m p kk kn kc 0 _ false false false false false (by simp)).mono ?_
 rintro e w1 ⟨rfl,hb⟩
 replace B:=B.onw hb
 replace O:=O.trans hb
 clear hb bc
 have bc:=B.cell
 cases h0:usesP m.toPD false false false false false
 ·exact J4
 ·exact J77):p:=h
theorem J104 (h:p:=by
 intro i hi j hj
 by_cases e:i=k
 ·subst e
  simp only[if_true]
  rw[get_setL_in _ _ _ _ (by simp;omega) (by simpa using hj)]
  simp[PM.val]
 ·simp only[e,if_false]
  rw[get_setL_out _ _ _ _ (by simp;omega)]
  exact h4 i (by omega) j hj):p:=h
theorem J105 (h:p:=by
 go_enter Tryz.func113,Tryz.ntmps113
 exact J45):p:=h
theorem J106 (h:p:=by
 go_wp2_with fail
 go_ret
 exact ⟨rtb fin.out.symm,Onw.refl _⟩):p:=h
theorem J107 (h:p:=by
 go_ret
 exact ⟨rtb (by rw[x1.out] <;> first|rfl|exact beq_false_of_ne (by assumption)|exact beq_false_of_ne (by omega)|exact decide_eq_false (by omega)|(show _=true;simp;done)|(show _=true;simp;omega)|(show _=false;simp;done)|(show _=false;simp;omega)),ob⟩):p:=h
theorem J108 (h:p:=by
 go_ret
 exact ⟨rtb (by rw[x2.out] <;> first|rfl|exact beq_false_of_ne (by assumption)|exact beq_false_of_ne (by omega)|exact decide_eq_false (by omega)|(show _=true;simp;done)|(show _=true;simp;omega)|(show _=false;simp;done)|(show _=false;simp;omega)),ob⟩):p:=h
theorem J109 (h:p:=by
 have f4:decide (x < 48)=false:=decide_eq_false (by omega)
 have f5:decide ((57:Int) < x)=true:=decide_eq_true (by omega)
 have f6:(x==95)=false:=by rw[beq_eq_false_iff_ne];omega
 exact J52):p:=h
theorem J110 (h:p:=by
 refine PartsAt.kept (p:=fun k=>w.heap.size+1+1 < k) (B:=w.heap.size+1+1+1) ?_ (fun k hk=>by show _ < _;omega) (hf3.mono (by omega)) (fun i hi=>(HG.out i hi).mono (by omega)) hi1
 exact ((Kept.refl _ _).set (by show¬_ < _;omega) _).set (by show¬_ < _;omega) _):p:=h
theorem J111 (h:p:=by
 apply Decidable.byContradiction
 intro hk
 have h2:19<=k:=by omega
 have h3:(10:Nat)^19<=10^k:=Nat.pow_le_pow_right (by omega) h2
 have h4:((10^k:Nat):Int)=(10:Int)^k:=by simp
 have h5:(10:Nat)^19=10000000000000000000:=by decide
 omega):p:=h
theorem J112 (h:p:=by
 simp only[dep1]
 rw[HKD.out,HV2.out]
 by_cases e:m=k
 ·rw[if_pos e,if_pos (by omega)]
 ·rw[if_neg e,if_neg (by omega)]):p:=h
theorem J113 (h:p:=by
 go_wp2_with fail
 go_roundw
 case rel=>exact ⟨j+1,j,by omega,by go_num,rfl,by omega,by omega,oC.trans (Onw.alloc _ _)⟩
 case measure=>simp[intOf];omega):p:=h
theorem J114 (h:p:=by
 refine ⟨by omega,fre.out.tags,fun k hk=>?_⟩
 exact (hgrow.block k (by simp only[World.size_alloc];omega) (fun e=>by have:=(hrow k e.symm).2;omega)).trans ((heap_alloc_old w9 _ (show k < w9.heap.size by omega)).trans (fre.out.kept k hk))):p:=h
theorem J115 (h:p:=by
 have e1:(pm i).nk=2:=s.1
 intro q hq
 exact exprs_isE s.2.1 q (by omega)):p:=h
theorem J116 (h:p:=by
 go_wp2_with fail
 go_roundw
 case rel=>exact fin.out _ (by rw[k13,k11,k12,k15];rfl)
 case measure=>simp[intOf];omega):p:=h
theorem J117 (h:p:=by
 obtain ⟨e1,e2,e3,e4,e5,e6,e16,e7,e8,e9,e10,e11,e12,e13,e14,e15,e20,e21,e22,e23,e24,e25,e26,e27,e28,e29,e30,e31,e32,e33,e34,e35,e36,e37,e40,e41,e42⟩:=h3
 symm
 rw[<-Bool.not_eq_true]
 simp[exprP]
 omega):p:=h
theorem J118 (h:p:=by
 have e:(V 2).ownBlock=some g:=by rw[hv];rfl
 exact ⟨r2.mine g e,r2.row.lt g e⟩):p:=h
theorem J119 (h:p:=by
 by_cases q0:q=0
 ·subst q0;exact Or.inl n2
 ·exact J248):p:=h
theorem J120 (h:p:=by
 rintro e w2 ⟨rfl,O2⟩
 go_wp2_with fail
 go_ret
 exact ⟨rtb (by rw[fin2.out,HQ.out,st.out];rfl),ob.trans O2⟩):p:=h
theorem J121 (h:p:=by exact J236):p:=h
theorem J122 (h:p:=by exact J237):p:=h
theorem J123 (h:p:=by
 go_wp2_with fail
 all_goals go_ret
 all_goals exact ⟨⟨_,rfl⟩,O1.out⟩):p:=h
theorem J124 (h:p:=by
 go_wp2_with fail
 all_goals go_ret
 all_goals exact ⟨⟨_,rfl⟩,T5.out.o⟩):p:=h
theorem J125 (h:p:=by
 intro i hi
 by_cases e:i=k
 ·subst e
  simp only[if_true]
  exact ⟨f1.mono (by omega),f2.mono (by omega),Nat.le_refl _,Nat.le_refl _⟩
 ·simp only[e,if_false]
  exact h6 i (by omega)):p:=h
theorem J126 (h:p:=by
 rcases h.slice (j:=1) (by omega) (by omega) with ⟨e,e2⟩|⟨g,cap,e,_⟩
 ·rw[hs.r1,List.length_map] at e2
  exact ⟨_,_,by rw[e,e2]⟩
 ·rw[hs.r1,List.length_map] at e
  exact ⟨_,_,e⟩):p:=h
theorem J127 (h:p:=by
 show _=_
 rw[show nk-j=0 from by omega];rfl):p:=h
theorem J128 (h:p:=by
 go_wp2_with fail
 go_ret
 exact ⟨rtb (by rw[HQ.out,st.out,hx];rfl),ob⟩):p:=h
theorem J129 (h:p:=by
 have cs:j=1\/j=2\/j=3\/j=4\/j=5\/j=6\/j=7\/j=8\/j=9\/j=10\/j=11:=by omega
 rcases cs with rfl|rfl|rfl|rfl|rfl|rfl|rfl|rfl|rfl|rfl|rfl <;> exact B3):p:=h
theorem J130 (h:p:=by
 simp only[if_neg e]
 rw[e1]
 exact hr.kept (p:=fun k=>own k=i+1/\k < w.heap.size) (fun k hk=>KK k (by omega) hk.2) (fun g hg=>⟨hr.mine g hg,(hr.row.lt g hg).2⟩) (fun _ _=>rfl)):p:=h
theorem J131 (h:p:=by
 go_wp2_with fail
 refine (kidsAre_any m p kk kn kc q none 0 0 (classF []) _ hn (hk.onw O) (fun h=>absurd h (Nat.not_lt_zero _))).mono ?_
 rintro e w3 ⟨rfl,hb⟩
 exact J30):p:=h
theorem J132 (h:p:=by
 have f0:decide ((97:Int)<=x)=false:=decide_eq_false (by omega)
 have f1:decide (x<=122)=true:=decide_eq_true (by omega)
 exact J66):p:=h
theorem J133 (h:p:=by
 have x2:Hid ((kidP (pdOf pm) (⟨7,F,G,L,O,N,X,S,nn,nm,3,kd⟩:PD) 1==1)=false):=by show _=_;rw[hq2];exact beq_false_of_ne y2
 clear hq2
 exact J58):p:=h
theorem J134 (h:p:=by
 have d2:=decide_eq_false h2
 go_quiet (fail)
 go_wp2_with fail
 go_ret
 exact ⟨rtb (by rw[fin.out,d1,d2];rfl),below_drewN O _⟩):p:=h
theorem J135 (h:p:=by
 rintro e w2 ⟨rfl,hb2⟩
 go_wp2_with fail
 go_ret
 exact ⟨w.heap.size+1+1,by rw[HKA.out];rfl,ob.trans hb2,by omega,ValsAt.onw hb2 V.out⟩):p:=h
theorem J136 (h:p:=by exact J230):p:=h
theorem J137 (h:p:=by
 refine IntsAt.kept (p:=fun k=>w.heap.size+1+1 < k) ?_ (fun x hx=>by have:=hf2 x hx;omega) hi2
 iterate 11 (refine Kept.set ?_ (by show¬_ < _;omega) _)
 exact Kept.refl _ _):p:=h
theorem J138 (h:p:=by
 refine StrsAt.kept (p:=fun k=>w.heap.size+1+1 < k) ?_ (fun x hx=>by have:=hf1 x hx;omega) i1
 iterate 11 (refine Kept.set ?_ (by show¬_ < _;omega) _)
 exact Kept.refl _ _):p:=h
theorem J139 (h:p:=by
 go_ret
 exact ⟨rfl,by first|exact Onw.refl _|exact Onw.alloc _ _⟩):p:=h
theorem J140 (h:p:=by
 rw[List.length_append,List.flatten_append]
 simpa using this):p:=h
theorem J141 (h:p:=by
 subst y1;clear hq1
 exact J234):p:=h
theorem J142 (h:p:=by exact J241):p:=h
theorem J143 (h:p:=by
 go_wp2_with fail
 exact bodyPost_end (v:= .tuple #[]) (results_none rfl _ _ _) rfl ⟨rfl,HP3.out⟩):p:=h
theorem J144 (h:p:=by
 have d1:=decide_eq_false h1
 go_quiet (fail)
 go_wp2_with fail
 go_ret
 exact ⟨rtb (by rw[fin.out,d1];rfl),below_drewN O _⟩):p:=h
theorem J145 (h:p:=by
 rintro e w1 ⟨rfl,O1⟩
 replace ob:=ob.trans O1
 go_wp2_with fail
 go_ret
 exact ⟨rtb (by rw[HQ.out,st.out];rfl),ob⟩):p:=h
theorem J146 (h:p:=by
 clear hp h5 q5 e5 f5
 go_wp2_with fail
 go_meet
 case rel=>exact ⟨y,own5,V5,R5,s5,rfl,hy,FIN.out⟩):p:=h
theorem J147 (h:p:=by
 intro q hq
 have e1:(pm i).nk=1:=s.1
 obtain rfl:q=0:=by omega
 have e2:kk pm i 0=34:=s.2.2
 unfold isE;omega):p:=h
theorem J148 (h:p:=by
 rintro e w' ⟨rfl,o⟩
 exact ⟨congrArg (fun b=>Ending.returned (.bool b)) (h0.trans (by rw[beq_false_of_ne q1,beq_false_of_ne q7];rfl)).symm,o⟩):p:=h
theorem J149 (h:p:=by
 go_wp2_with fail
 refine (kidsAre_any m p kk kn kc q _ 2 _ (classF [8,2]) _ hn (hk.onw (O.trans (Onw.alloc _ _))) (by exact lay2 _ _ 8 2)).mono ?_
 exact J53):p:=h
theorem J150 (h:p:=by
 go_wp2_with fail
 go_ret
 exact ⟨rtb (by simp[*]),O0⟩):p:=h
theorem J151 (h:p:=by
 simp only[St.declare,St.name,St.decl]
 cases shadowB (scF (s.declare part nm l vs c).sc) (s.declare part nm l vs c).sc.length (l+1) part (nm c) <;> rfl):p:=h
theorem J152 (h:p:=by
 go_wp2_with fail
 go_ret
 exact ⟨rfl,(Onw.alloc _ _).trans (Onw.alloc _ _)⟩):p:=h
theorem J153 (h:p:=by
 go_wp2_with fail
 go_ret
 exact ⟨rtb fin.out.symm,Onw.alloc _ _⟩):p:=h
theorem J154 (h:p:=by
 have:=h.lens i i1 i2
 unfold pushR
 by_cases e:i=2
 ·rw[if_pos e,List.length_append];simp;omega
 ·rw[if_neg e];omega):p:=h
theorem J155 (h:p:=by
 unfold St.shade
 cases shadowB (scF (bif cvOk c then s1 else s1.fault 6 i).sc) (bif cvOk c then s1 else s1.fault 6 i).sc.length (l+1) i name <;> exact h1):p:=h
theorem J156 (h:p:=by
 rcases e5 with e|e|e
 ·have:=S.for_ e;omega
 ·have:=S.each e;omega
 ·have:=S.try_ e;omega):p:=h
theorem J157 (h:p:=by
 go_wp2_with fail
 go_ret
 exact ⟨rtb (by rw[x0.out];rfl),ob⟩):p:=h
theorem J158 (h:p:=by
 refine ⟨hg',fun e=>?_,fun e=>?_⟩
 ·have:=hr.mine g' e.symm;omega
 ·have:=h.wk.wpo;rw[<-e] at this;omega):p:=h
theorem J159 (h:p:=by
 go_wp2_with fail
 go_ret
 exact ⟨⟨_,rfl,by rw[ByteArray.size_append];show s'.size+3<=60;omega⟩,O2.out⟩):p:=h
theorem J160 (h:p:=by
 have:=relC.rest (pd:=pdOf pm) (FX:=FX) (l:=l) (lo:=lp l) (re:=rs l) (i:=i) (s:=s) HKK.out
 rw[hr] at this;rw[hr];exact this):p:=h
theorem J161 (h:p:=by
 rintro e w1 ⟨rfl,O1⟩
 replace T:=T.onw O1
 replace ob:=ob.trans O1
 clear O1
 rw[hq]
 exact J34):p:=h
theorem J162 (h:p:=by
 rintro e w' ⟨rfl,o⟩
 exact ⟨congrArg (fun b=>Ending.returned (.bool b)) (h0.trans (by rw[q1];simp)).symm,o⟩):p:=h
theorem J163 (h:p:=by
 rintro e w' ⟨rfl,o⟩
 exact ⟨congrArg (fun b=>Ending.returned (.bool b)) (h0.trans (by rw[q7];simp)).symm,o⟩):p:=h
theorem J164 (h:p:=by unfold bump;rw[if_neg (by omega),if_pos rfl]):p:=h
theorem J165 (h:p:=by
 obtain ⟨c',h1,h2,h3⟩:=m c hc
 obtain ⟨d',k1,k2,k3⟩:=m d hd
 rw[h2,h3,k2,k3]
 exact h.same c' h1 d' k1):p:=h
theorem J166 (h:p:=by first|exact HG3.out|exact HG3.out.on (Below.drew (Onw.refl _))|exact HG3.out.on (below_drewN (Onw.refl _) _)):p:=h
theorem J167 (h:p:=by
 have e:=tr.szs i hi
 rw[hnk] at e
 simp only[psum] at e
 rw[ha0,ha1,ha2] at e
 simp at e
 omega):p:=h
theorem J168 (h:p:=by
 refine rd [9] ?_
 refine AllReadyH.cons rfl (fun K hK=>?_) ?_
 ·exact J78
 exact AllReadyH.nil):p:=h
theorem J169 (h:p:=by
 go_wp2_with fail
 refine (standAs_any _ _ _ q 8 _ hn (hk.onw O)).mono ?_
 rintro e w2 ⟨rfl,hb⟩
 exact J30):p:=h
theorem J170 (h:p:=by
 go_wp2_with fail
 go_ret
 exact ⟨rtb (by rw[fin.out,D.out,D2.out,hy];rfl),O⟩):p:=h
theorem J171 (h:p:=by
 go_enter Tryz.func98,Tryz.ntmps98
 go_wp2_with fail
 go_ret
 exact ⟨rtb fin.out.symm,rfl⟩):p:=h
theorem J172 (h:p:=by
 simp only[Value.string.injEq] at hs
 rw[findE_last,if_pos hs]
 exact ⟨x,rfl,rfl⟩):p:=h
theorem J173 (h:p:=by
 show _=_
 rw[show s.size-k=(s.size-(k+1))+1 from by omega];rfl):p:=h
theorem J174 (h:p:=by
 show _=_
 unfold kidX
 rw[if_pos ⟨j0,j1⟩,hk];rfl):p:=h
theorem J175 (h:p:=by
 go_wp2_with fail
 go_meet
 case rel=>exact ⟨by rw[oo.out],rfl⟩):p:=h
theorem J176 (h:p:=by
 obtain rfl:m=n:=by omega
 go_wp2_with fail
 go_ret
 exact ⟨rfl,HM.out⟩):p:=h
theorem J177 (h:p:=by
 go_ret
 exact ⟨_,rfl,Onw.alloc _ _,.inl rfl⟩):p:=h
theorem J178 (h:p:=by
 rcases List.mem_cons.1 hc with rfl|hc
 ·rw[h3];intro x hx;simp at hx
 ·exact h.own c hc):p:=h
theorem J179 (h:p:=by
 rw[HSAME.out] at E1
 exact List.append_cancel_left E1):p:=h
theorem J180 (h:p:=by
 go_enter Tryz.func50,Tryz.ntmps50
 go_wp2
 go_ret
 exact ⟨rfl,Onw.refl _⟩):p:=h
theorem J181 (h:p:=by
 go_wp2_with fail
 all_goals go_ret
 all_goals exact ⟨⟨_,rfl⟩,ob⟩):p:=h
theorem J182 (h:p:=by
 have e1:(pm i).nk=1:=s.1
 intro q hq
 exact exprs_isE s.2.1 q (by omega)):p:=h
theorem J183 (h:p:=by
 have:=h1
 simp only[pxOf,pv,PX.val,hkn] at this
 exact this):p:=h
theorem J184 (h:p:=by
 show _=_
 rw[show s.size-k=0 from by omega];rfl):p:=h
theorem J185 (h:p:=by
 rintro e w3 ⟨rfl,hb⟩
 exact J244):p:=h
theorem J186 (h:p:=by
 show _=_
 rw[depD,show l+1-1-s=i by omega];rfl):p:=h
theorem J187 (h:p:=by
 go_enter Tryz.func45,Tryz.ntmps45
 exact J106):p:=h
theorem J188 (h:p:=by
 show _=_
 rw[show nk-j=(nk-(j+1))+1 from by omega,<-hqq];rfl):p:=h
theorem J189 (h:p:=by
 rcases hwh with e|e
 ·exact h.mine g e
 ·exact high g (Nat.le_trans hw1.size e)):p:=h
theorem J190 (h:p:=by
 go_wp2_with fail
 go_ret
 exact ⟨by rw[HB.out];rfl,O1.out⟩):p:=h
theorem J191 (h:p:=by
 go_enter Tryz.func39,Tryz.ntmps39
 exact J239):p:=h
theorem J192 (h:p:=by
 simp only[hkx.out,pv,PX.val,hkn] at this
 exact this):p:=h
theorem J193 (h:p:=by
 intro i
 by_cases e:i=k
 ·subst e;simp
 ·simp[e];exact h3 i):p:=h
theorem J194 (h:p:=by
 simp only[IntKind.wrap,IntKind.bits,IntKind.signed]
 simp
 split <;> omega):p:=h
theorem J195 (h:p:=by
 show _=_
 rw[show n-k=(n-(k+1))+1 from by omega];rfl):p:=h
theorem J196 (h:p:=by exact J246):p:=h
theorem J197 (h:p:=by exact J247):p:=h
theorem J198 (h:p:=by
 rintro ⟨g,cap,cur,e1,e2,e3⟩
 exact ⟨g,cap,cur,e1,Nat.le_trans hb e2,e3⟩):p:=h
theorem J199 (h:p:=by
 go_wp2_with fail
 go_ret
 exact ⟨o1,Or.inl ⟨hne.out,rfl⟩⟩):p:=h
theorem J200 (h:p:=by rw[List.getElem?_set_ne e];exact ⟨Nat.le_refl _,Nat.le_refl _,Nat.le_refl _⟩):p:=h
theorem J201 (h:p:=by
 go_wp2_with fail
 go_ret
 exact ⟨by rw[T.out];rfl,Onw.alloc _ _⟩):p:=h
theorem J202 (h:p:=by
 refine Or.inr (Or.inr (Or.inr ?_))
 unfold kk
 omega):p:=h
theorem J203 (h:p:=by
 show _=_
 unfold partT
 repeat (rw[if_neg (by omega)])):p:=h
theorem J204 (h:p:=by
 simp only[Value.ownBlock,Option.some.injEq] at hg
 rw[<-hg];exact ho):p:=h
theorem J205 (h:p:=by
 go_wp2_with fail
 go_ret
 exact ⟨⟨_,rfl,by decide⟩,T1.out.1⟩):p:=h
theorem J206 (h:p:=by
 generalize cls2 (kidP pd d 1)=b1
 revert a0 b0 a1 b1
 decide):p:=h
theorem J207 (h:p:=by
 generalize cls8 (kidP pd d 1)=b1
 revert a0 b0 a1 b1
 decide):p:=h
theorem J208 (h:p:=by rw[ek,nlen_set_self hk (by rw[hcells];simp)];exact Nat.le_refl _):p:=h
theorem J209 (h:p:=by
 show _=_
 rw[show n-k=0 from by omega];rfl):p:=h
theorem J210 (h:p:=by
 obtain ⟨c',h1,h2,h3⟩:=m c hc
 rw[h3];exact h.le c' h1):p:=h
theorem J211 (h:p:=by
 intro q hq
 exact exprs_isE s.2.2.2.1 q (by omega)):p:=h
theorem J212 (h:p:=by rw[List.length_append,List.flatten_append,hn];simpa using hown):p:=h
theorem J213 (h:p:=by
 obtain rfl:q=0:=by omega
 exact Or.inl n2):p:=h
theorem J214 (h:p:=by
 simp[IntKind.wrap,IntKind.bits,IntKind.signed]
 split <;> omega):p:=h
theorem J215 (h:p:=by rw[show n-i=(n-(i+1))+1 from by omega,firstBad,hf];rfl):p:=h
theorem J216 (h:p:=by
 rw[show (pdOf pm i).nk=1 from n1]
 rfl):p:=h
theorem J217 (h:p:=by
 clear R3 F3 g0 g1 g2 g3 g4 g5 g6 g7 g8 g9 g10 g11 zg
 exact J143):p:=h
theorem J218 (h:p:=by
 rintro e w3 ⟨⟨_,rfl,c9,k9,n9,f9,s9,r9,rfl,v9⟩,o3⟩
 have T3:Hid _:=on3 T2.out o3
 clear o3
 have V9:Hid _:=v9
 clear v9
 have ac0:=Blk.at_ T3.out.2.1 0 rfl
 have ac1:=Blk.at_ T3.out.2.1 1 rfl
 have ac2:=Blk.at_ T3.out.2.1 2 rfl
 have ac3:=Blk.at_ T3.out.2.1 3 rfl
 have ac4:=Blk.at_ T3.out.2.1 4 rfl
 have az:=Blk.lt T3.out.2.1
 have bc0:=Blk.at_ T3.out.2.2.1 0 rfl
 have bc1:=Blk.at_ T3.out.2.2.1 1 rfl
 have bc2:=Blk.at_ T3.out.2.2.1 2 rfl
 have bc3:=Blk.at_ T3.out.2.2.1 3 rfl
 have bc4:=Blk.at_ T3.out.2.2.1 4 rfl
 have bz:=Blk.lt T3.out.2.2.1
 have y0:=Blk.at_ T3.out.2.2.2 0 rfl
 have y1:=Blk.at_ T3.out.2.2.2 1 rfl
 have y2:=Blk.at_ T3.out.2.2.2 2 rfl
 have y3:=Blk.at_ T3.out.2.2.2 3 rfl
 have y4:=Blk.at_ T3.out.2.2.2 4 rfl
 have y5:=Blk.at_ T3.out.2.2.2 5 rfl
 have yf:=Blk.free T3.out.2.2.2
 have yz:=Blk.lt T3.out.2.2.2
 go_wp2_with fail
 exact bodyPost_ret (v:= .agg #[.int .i64 c9,.int .i64 k9,.int .i64 n9,.float .f64 f9,.string s9,.int .i64 r9]) (by simp[results,Tryz.results108,go_sem,y0,y1,y2,y3,y4,y5]) rfl ⟨⟨_,rfl,_,_,_,_,_,_,rfl,V9.out⟩,bset (bset (bset (bset (bset (bset (T3.out.1) (by omega) _) (by omega) _) (by omega) _) (by omega) _) (by omega) _) (by omega) _⟩):p:=h
theorem J219 (h:p:=by
 go_wp2_with fail
 clear ac0 ac1 ac2 ac3 ac4 bc0 bc1 bc2 bc3 bc4 az bz
 refine (l1fail_any _ _).mono ?_
 rintro e w2 ⟨⟨_,rfl,c9,k9,n9,f9,s9,r9,rfl,v9⟩,o2⟩
 have T2:Hid _:=on3 T1.out o2
 clear o2
 have V9:Hid _:=v9
 clear v9
 have ac0:=Blk.at_ T2.out.2.1 0 rfl
 have ac1:=Blk.at_ T2.out.2.1 1 rfl
 have ac2:=Blk.at_ T2.out.2.1 2 rfl
 have ac3:=Blk.at_ T2.out.2.1 3 rfl
 have ac4:=Blk.at_ T2.out.2.1 4 rfl
 have az:=Blk.lt T2.out.2.1
 have bc0:=Blk.at_ T2.out.2.2.1 0 rfl
 have bc1:=Blk.at_ T2.out.2.2.1 1 rfl
 have bc2:=Blk.at_ T2.out.2.2.1 2 rfl
 have bc3:=Blk.at_ T2.out.2.2.1 3 rfl
 have bc4:=Blk.at_ T2.out.2.2.1 4 rfl
 have bz:=Blk.lt T2.out.2.2.1
 have y0:=Blk.at_ T2.out.2.2.2 0 rfl
 have y1:=Blk.at_ T2.out.2.2.2 1 rfl
 have y2:=Blk.at_ T2.out.2.2.2 2 rfl
 have y3:=Blk.at_ T2.out.2.2.2 3 rfl
 have y4:=Blk.at_ T2.out.2.2.2 4 rfl
 have y5:=Blk.at_ T2.out.2.2.2 5 rfl
 have yf:=Blk.free T2.out.2.2.2
 have yz:=Blk.lt T2.out.2.2.2
 go_wp2_with fail
 exact bodyPost_ret (v:= .agg #[.int .i64 c9,.int .i64 k9,.int .i64 n9,.float .f64 f9,.string s9,.int .i64 r9]) (by simp[results,Tryz.results108,go_sem,y0,y1,y2,y3,y4,y5]) rfl ⟨⟨_,rfl,_,_,_,_,_,_,rfl,V9.out⟩,bset (bset (bset (bset (bset (bset (T2.out.1) (by omega) _) (by omega) _) (by omega) _) (by omega) _) (by omega) _) (by omega) _⟩):p:=h
theorem J220 (h:p:=by
 go_wp2_with fail
 clear ac0 ac1 ac2 ac3 ac4 bc0 bc1 bc2 bc3 bc4 az bz
 refine (l1fail_any _ _).mono ?_
 rintro e w4 ⟨⟨_,rfl,c9,k9,n9,f9,s9,r9,rfl,v9⟩,o4⟩
 have T4:Hid _:=on3 T3.out o4
 clear o4
 have V9:Hid _:=v9
 clear v9
 have ac0:=Blk.at_ T4.out.2.1 0 rfl
 have ac1:=Blk.at_ T4.out.2.1 1 rfl
 have ac2:=Blk.at_ T4.out.2.1 2 rfl
 have ac3:=Blk.at_ T4.out.2.1 3 rfl
 have ac4:=Blk.at_ T4.out.2.1 4 rfl
 have az:=Blk.lt T4.out.2.1
 have bc0:=Blk.at_ T4.out.2.2.1 0 rfl
 have bc1:=Blk.at_ T4.out.2.2.1 1 rfl
 have bc2:=Blk.at_ T4.out.2.2.1 2 rfl
 have bc3:=Blk.at_ T4.out.2.2.1 3 rfl
 have bc4:=Blk.at_ T4.out.2.2.1 4 rfl
 have bz:=Blk.lt T4.out.2.2.1
 have y0:=Blk.at_ T4.out.2.2.2 0 rfl
 have y1:=Blk.at_ T4.out.2.2.2 1 rfl
 have y2:=Blk.at_ T4.out.2.2.2 2 rfl
 have y3:=Blk.at_ T4.out.2.2.2 3 rfl
 have y4:=Blk.at_ T4.out.2.2.2 4 rfl
 have y5:=Blk.at_ T4.out.2.2.2 5 rfl
 have yf:=Blk.free T4.out.2.2.2
 have yz:=Blk.lt T4.out.2.2.2
 go_wp2_with fail
 exact bodyPost_ret (v:= .agg #[.int .i64 c9,.int .i64 k9,.int .i64 n9,.float .f64 f9,.string s9,.int .i64 r9]) (by simp[results,Tryz.results108,go_sem,y0,y1,y2,y3,y4,y5]) rfl ⟨⟨_,rfl,_,_,_,_,_,_,rfl,V9.out⟩,bset (bset (bset (bset (bset (bset (T4.out.1) (by omega) _) (by omega) _) (by omega) _) (by omega) _) (by omega) _) (by omega) _⟩):p:=h
theorem J221 (h:p:=by
 have HA:Hid _:=a
 have HBB:Hid _:=b
 have HSR:Hid _:=s
 clear a b s hk2
 have v6:(w2.setCell ⟨g',k*9+1+5,none⟩ (.slice (some ⟨g2,0,none⟩) (us.length+1:Nat) cap2)).cell? ⟨g',k*9+1+5,none⟩=some (.slice (some ⟨g2,0,none⟩) (us.length+1:Nat) cap2):=by simp[World.cell?_setCell_same,q6]
 have v2:=hHeld.1
 clear hHeld hown hgrow hwhere q6 f62
 generalize w2.setCell ⟨g',k*9+1+5,none⟩ (.slice (some ⟨g2,0,none⟩) (us.length+1:Nat) cap2)=w3 at*
 go_wp2_with fail
 go_roundw
 case rel=>exact ⟨k+1,us.length,_,V1,R',by omega,Or.inl (by omega),by first|rfl|go_num,by go_num,HA.out.more (by omega),(FR1.out.trans (Fr.onw oW)).trans HBB.out,SR1.out.trans HSR.out⟩
 case measure=>simp[intOf];omega):p:=h
theorem J222 (h:p:=by
 go_wp2_with fail
 exact bodyPost_ret (v:= .agg #[.int .i64 i,.int .i64 1,.int .i64 0,.int .i64 0,.float .f64 0,.string {data:= #[]},.int .i64 0]) (by simp[results,Tryz.results83,go_sem,y0,y1,y2,y3,y4,y5,y6]) rfl ⟨⟨⟨1,0,0,0,{data:= #[]},0⟩,rfl,Vok.zero⟩,bset (bset (bset (bset (bset (bset (bset (F2.out.o) (by omega) _) (by omega) _) (by omega) _) (by omega) _) (by omega) _) (by omega) _) (by omega) _⟩):p:=h
theorem J223 (h:p:=by
 go_wp2_with fail
 clear ac0 ac1 ac2 ac3 ac4 bc0 bc1 bc2 bc3 bc4 az bz
 refine (l1bool_any _ _).mono ?_
 rintro e w4 ⟨⟨_,rfl,k1,n1,f1,s1,r1,rfl,v1⟩,o4⟩
 have T4:Hid _:=on3 T3.out o4
 clear o4
 have V1:Hid _:=v1
 clear v1
 have ac0:=Blk.at_ T4.out.2.1 0 rfl
 have ac1:=Blk.at_ T4.out.2.1 1 rfl
 have ac2:=Blk.at_ T4.out.2.1 2 rfl
 have ac3:=Blk.at_ T4.out.2.1 3 rfl
 have ac4:=Blk.at_ T4.out.2.1 4 rfl
 have az:=Blk.lt T4.out.2.1
 have bc0:=Blk.at_ T4.out.2.2.1 0 rfl
 have bc1:=Blk.at_ T4.out.2.2.1 1 rfl
 have bc2:=Blk.at_ T4.out.2.2.1 2 rfl
 have bc3:=Blk.at_ T4.out.2.2.1 3 rfl
 have bc4:=Blk.at_ T4.out.2.2.1 4 rfl
 have bz:=Blk.lt T4.out.2.2.1
 go_wp2_with fail
 clear ac0 ac1 ac2 ac3 ac4 bc0 bc1 bc2 bc3 bc4 az bz
 refine (l1got_any k1 n1 f1 s1 r1 V1.out _).mono ?_
 exact J16):p:=h
theorem J224 (h:p:=by
 go_wp2_with fail
 go_ret
 obtain ⟨a1,a2,a3,a4,b1,b2,b3,b4,b5,⟨b6,b7⟩,b8⟩:=FIN.out
 exact ⟨_,1,1,by omega,fun _=>by omega,rfl,a1,a2,a3,a4,b1,b2,b3,b4,b5,b6,b7,b8⟩):p:=h
theorem J225 (h:p:=by
 go_ret
 exact ⟨rtb (by rw[x0.out] <;> first|rfl|exact beq_false_of_ne (by assumption)|exact beq_false_of_ne (by omega)|exact decide_eq_false (by omega)|(show _=true;simp;done)|(show _=true;simp;omega)|(show _=false;simp;done)|(show _=false;simp;omega)),ob⟩):p:=h
theorem J226 (h:p:=by
 go_wp2_with fail
 go_meet
 case rel=>obtain ⟨a1,a2,a3,a4⟩:=same.out _ fin.out;exact ⟨a1,a2,a3,a4 rfl⟩):p:=h
theorem J227 (h:p:=by
 have ⟨t0,c0,c1,c2,c3,c4,c5,c6,c7,c8,c9⟩:=T
 go_wp2_with fail
 clear t0 c0 c1 c2 c3 c4 c5 c6 c7 c8 c9
 exact J12):p:=h
theorem J228 (h:p:=by
 rw[hq1]
 have x1:Hid _:=hq1
 clear hq1
 cases q1
 ·
  exact J29
 ·
  exact J34):p:=h
theorem J229 (h:p:=by (intro w hSw;(try dsimp only at hSw);go_simp;try (with_reducible rfl))):p:=h
theorem J230 (h:p:=by
 go_wp2_with fail
 refine (kidsAre_any m p kk kn kc q none 0 0 (classF []) _ hn (hk.onw O) (fun h=>absurd h (Nat.not_lt_zero _))).mono ?_
 rintro e w2 ⟨rfl,hb⟩
 exact J30):p:=h
theorem J231 (h:p:=by
 go_wp2_with fail
 refine (kidsAre_any m p kk kn kc q _ 2 _ (classF [8,8]) _ hn (hk.onw (O.trans (Onw.alloc _ _))) (by exact lay2 _ _ 8 8)).mono ?_
 exact J53):p:=h
theorem J232 (h:p:=by
 have f4:decide (x < 48)=false:=decide_eq_false (by omega)
 have f5:decide ((57:Int) < x)=true:=decide_eq_true (by omega)
 exact J33):p:=h
theorem J233 (h:p:=by
 go_wp2_with fail
 go_ret
 exact ⟨rtb (by rw[fin.out,HQ.out,st.out,el.out,kz];rfl),Onw.refl _⟩):p:=h
theorem J234 (h:p:=by
 have ⟨t0,c0,c1,c2,c3,c4,c5,c6,c7,c8,c9⟩:=T
 go_wp2_with fail
 clear t0 c0 c1 c2 c3 c4 c5 c6 c7 c8 c9
 exact J11):p:=h
theorem J235 (h:p:=by
 go_wp2_with fail
 clear ac0 ac1 ac2 ac3 ac4 bc0 bc1 bc2 bc3 bc4 az bz
 refine (l1fail_any _ _).mono ?_
 exact J218):p:=h
theorem J236 (h:p:=by
 go_wp2_with fail
 go_ret
 exact ⟨⟨_,rfl⟩,T1.out.o⟩):p:=h
theorem J237 (h:p:=by
 go_wp2_with fail
 go_ret
 exact ⟨⟨_,rfl⟩,T2.out.o⟩):p:=h
theorem J238 (h:p:=by
 go_wp2_with fail
 clear ac0 ac1 ac2 ac3 ac4 bc0 bc1 bc2 bc3 bc4 az bz
 refine (l1fail_any _ _).mono ?_
 exact J16):p:=h
theorem J239 (h:p:=by
 go_wp2_with fail
 go_ret
 exact ⟨rtb rfl,ob⟩):p:=h
theorem J240 (h:p:=by
 rw[hq0]
 have x0:Hid _:=hq0
 clear hq0
 cases q0
 ·
  exact J29
 ·
  exact J34):p:=h
theorem J241 (h:p:=by
 go_wp2_with fail
 exact bodyPost_end (v:= .tuple #[]) (results_none rfl _ _ _) rfl ⟨rfl,HP2.out⟩):p:=h
theorem J242 (h:p:=by
 obtain ⟨t0,c0,c1,c2,c3,c4,c5,c6,c7,c8,c9⟩:=T
 go_wp2_with fail
 exact J11):p:=h
theorem J243 (h:p:=by
 obtain ⟨t0,c0,c1,c2,c3,c4,c5,c6,c7,c8,c9⟩:=T
 go_wp2_with fail
 exact J12):p:=h
theorem J244 (h:p:=by
 replace hb:=(Onw.alloc _ _).trans hb
 exact J30):p:=h
theorem J245 (h:p:=by
 go_wp2_with fail
 all_goals go_ret
 all_goals exact ⟨⟨_,rfl⟩,T4.out.o⟩):p:=h
theorem J246 (h:p:=by
 go_wp2_with fail
 all_goals go_ret
 all_goals exact ⟨⟨_,rfl⟩,T3.out.o⟩):p:=h
theorem J247 (h:p:=by
 go_wp2_with fail
 all_goals go_ret
 all_goals exact ⟨⟨_,rfl⟩,T6.out.o⟩):p:=h
theorem J248 (h:p:=by
 obtain rfl:q=1:=by omega
 exact Or.inr (Or.inl n3)):p:=h
theorem Zo (h:p:=by omega):p:=h
theorem Zd (h:p:=by rw[beq_eq_false_iff_ne];omega):p:=h
theorem Zb (h:p:=by decide):p:=h
theorem Zk (h:p:=by rw[hk];rfl):p:=h
theorem Ze (h:p:=by rw[hv2] at hv;simp only[Value.slice.injEq,Option.some.injEq,Addr.mk.injEq,and_true] at hv;exact hv.1.symm):p:=h
theorem Zf (h:p:=by rintro rfl;revert hno;decide):p:=h
theorem Zg (h:p:=by unfold expnP;rw[hk];rfl):p:=h
theorem Zh (h:p:=by dsimp only;omega):p:=h
theorem Zi (h:p:=by rw[h.blk.cell,<-hpa,<-htv];rfl):p:=h
theorem Zj (h:p:=by simp;omega):p:=h
theorem Zl (h:p:=by unfold stmtP;rw[hk];rfl):p:=h
theorem Zm (h:p:=by simp only[maxLen];omega):p:=h
theorem J261 (h:p:=by have:=hec 0 (by omega);rw[ha0] at this;exact this):p:=h
theorem J262 (h:p:=by simp[Value.oneCell']):p:=h
theorem J263 (h:p:=by have:=hr1.out;have:=hle.out;omega):p:=h
theorem J264 (h:p:=by rw[e];unfold kidsR;simp[allB,classF]):p:=h
theorem J265 (h:p:=by have:=(tr.kid i hi 0 (by omega)).2;omega):p:=h
theorem J266 (h:p:=by have:=hec 1 (by omega);rw[ha1] at this;exact this):p:=h
theorem J267 (h:p:=by show SeqR _ _ _ _ _ (pm i).kd ((pm i).nk-1) _ _;rw[HNK.out];exact Q5.out):p:=h
theorem J268 (h:p:=by show _<=_;obtain ⟨t,e,_⟩:=ADM.out;rw[e,List.length_append];omega):p:=h
theorem J269 (h:p:=by simp):p:=h
theorem J270 (h:p:=by have:=(tr.kid i hi 1 (by omega)).2;omega):p:=h
theorem J271 (h:p:=by simp[results,Tryz.results83,go_sem,y0,y1,y2,y3,y4,y5,y6]):p:=h
theorem J272 (h:p:=by simp[results,Tryz.results84,go_sem]):p:=h
theorem J273 (h:p:=by show plainB (pm i).kind=true;rw[HKK.out];rfl):p:=h
theorem J274 (h:p:=by have:=HR.out;omega):p:=h
theorem J275 (h:p:=by rw[beq_iff_eq];omega):p:=h
theorem J276 (h:p:=by simp[results,Tryz.results106,go_sem,y0,y1,y2,y3,y4,y5,y6]):p:=h
theorem J277 (h:p:=by simp[results,Tryz.results124,go_sem,y0,y1,y2,y3,y4,y5]):p:=h
theorem J278 (h:p:=by first|exact Onw.trans o1 o9|exact Onw.trans (Onw.trans (flD_onw _ _ _ _) o1) o9):p:=h
theorem J279 (h:p:=by simp[results,Tryz.results14,go_sem,y0,y1]):p:=h
theorem J280 (h:p:=by simp[results,Tryz.results29,go_sem,y0,y1]):p:=h
theorem J281 (h:p:=by show _=_;rw[SM.out.at_.r1,List.length_map]):p:=h
theorem J282 (h:p:=by show _=_;rw[hq2];exact beq_false_of_ne y2):p:=h
theorem J283 (h:p:=by show _=_;rw[hq1];exact beq_false_of_ne y1):p:=h
theorem J284 (h:p:=by rw[show l*9+1+6=l*9+7 by omega,hcc 7 (by omega),hcells];rfl):p:=h
theorem J285 (h:p:=by simp only[World.size_alloc];omega):p:=h
theorem J286 (h:p:=by rw[<-ownBlock_cut va n m vc];exact hg):p:=h
theorem J287 (h:p:=by rw[e];rfl):p:=h
theorem J288 (h:p:=by rw[Nat.zero_add];simpa using hj):p:=h
theorem J289 (h:p:=by show _=_;rw[hq2,y2];rfl):p:=h
theorem J290 (h:p:=by simp[results,Tryz.results126,go_sem,y0,y1,y2,y3,y4,y5]):p:=h
theorem J291 (h:p:=by simp[results,Tryz.results107,go_sem,y0,y1,y2,y3,y4,y5]):p:=h
theorem J292 (h:p:=by go_keep):p:=h
theorem J293 (h:p:=by show _=_;rw[hq3];exact beq_false_of_ne y3):p:=h
theorem J294 (h:p:=by rw[Bool.eq_iff_iff];simp):p:=h
theorem J295 (h:p:=by simp[results,Tryz.results72,go_sem,y0,y1,y2,y3]):p:=h
theorem J296 (h:p:=by have:=HH.out.blk.lt;omega):p:=h
theorem J297 (h:p:=by have:=hec 2 (by omega);rw[ha2] at this;exact this):p:=h
theorem J298 (h:p:=by simp[results,Tryz.results82,go_sem]):p:=h
theorem J299 (h:p:=by have:=hb1.size;simp at this;omega):p:=h
theorem J300 (h:p:=by rw[hr1.out];exact hle.out):p:=h
theorem J301 (h:p:=by show _=_;rw[hq1,y1];rfl):p:=h
theorem J302 (h:p:=by have:=HNN.out;omega):p:=h
theorem J303 (h:p:=by show _=_;rw[hq0];exact beq_false_of_ne y0):p:=h
theorem J304 (h:p:=by assumption):p:=h
theorem J305 (h:p:=by have:=h.lens 2 (by omega) (by omega);omega):p:=h
theorem J306 (h:p:=by have h1:=hps.out;have h2:=hle.out;omega):p:=h
theorem J307 (h:p:=by show _=_;unfold nameS nameF;rw[e];rfl):p:=h
theorem J308 (h:p:=by have:=(tr.kid i hi 2 (by omega)).2;omega):p:=h
theorem J309 (h:p:=by simpa only [World.size_setCell] using hk):p:=h
theorem J310 (h:p:=by rw[fin.out,d1,d2,d3];rfl):p:=h
theorem J311 (h:p:=by unfold knP;rw[if_pos h]):p:=h
theorem J312 (h:p:=by simpa[Value.ownBlock] using hy):p:=h
theorem J313 (h:p:=by have:=(HT.out.kid i hi j hlt).2;omega):p:=h
theorem J314 (h:p:=by rw[hf];omega):p:=h
theorem J315 (h:p:=by show _=_;rw[hq3,y3];rfl):p:=h
theorem J316 (h:p:=by show _=_;unfold kindB;rw[c1];rfl):p:=h
theorem J317 (h:p:=by simp only[bne_iff_ne,ne_eq];omega):p:=h
theorem J318 (h:p:=by rw[HD.out];exact Nat.le_refl _):p:=h
theorem J319 (h:p:=by rw[HD.out];exact Nat.le_refl D):p:=h
theorem J320 (h:p:=by rw[hcc 8 (by omega),hcells];rfl):p:=h
theorem J321 (h:p:=by show _=_;have:=HNQ.out;omega):p:=h
theorem J322 (h:p:=by show 0 < np;omega):p:=h
theorem J323 (h:p:=by have:=lt q hq;omega):p:=h
end Go.Proofs.YtlibofjbhhdjdaaGreat
