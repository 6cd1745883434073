import Derived.Test.YtlibofjbhhdjdaaGreatQ
import Derived.Test.YtlibofjbhhdjdaaGreatP13
set_option linter.unusedSimpArgs false
set_option maxRecDepth 100000
set_option maxHeartbeats 16000000
namespace Go.Proofs.YtlibofjbhhdjdaaGreat
open Go.RowKit
attribute [local go_sem] rsf
variable {FX:List SNm->Nat->CV->Prop} {i np wp:Nat} {sz:Nat->Nat} {pm:Nat->PM} {tv:Value} {w0:World}
theorem stat_k2 (tr:Tr w0 tv np pm sz)(hi:i < np)(hk:(pm i).kind=2)(hex:∀q,q < (pm i).nk->ExprOk w0 wp tv (pdOf pm) FX sz ((pm i).kd q).toNat):StatOk w0 wp tv (pdOf pm) FX sz i:=by
 intro w own V R B lp rs l s h hl hs hf hB hll hlp
 obtain ⟨pa,pc,pb,po,sa,sc',htv,ha,hpa,hpc,hv1,⟨c0,c1,c2,c3,c4,c5,c6,c7,c8,c9⟩,b0,b1,zc,zb,i0,i1,szi,nk2,nn2⟩:=stat_pre tr hi h hs
 have ⟨HH,HL,HS,HF,HT,HA,HTV,HP,HKK,HV1⟩:=hid10 h hl hs hf tr ha htv hpc hk hv1
 have ⟨k1,k2,k3,k4,k5,k6,k15,k13,k16,k7,k8,k9,k10,k11,k12,k14⟩:=kindsAt hk
 have HE:Hid _:=hex
 have HKI:Hid _:=(ha.2 i hi).2
 have hnm:Hid _:=(ha.2 i hi).1
 clear hex
 clear h hl hs hf tr ha hpc htv hk hv1
 go_enter Tryz.func40,Tryz.ntmps40
 go_wp2_with fail
 have SD:Hid _:=Sd.start HH.out HL.out HS.out (PB (pm i) (pm i).ka (pm i).nk) #[.int .i64 2,.int .i64 (pm i).line,.int .i64 0,.int .i64 0,.float .f64 0,.string {data:= #[]},.slice none 0 0,.slice none 0 0]
 generalize (w.alloc (Obj.cells (PB (pm i) (pm i).ka (pm i).nk) 67)).alloc (Obj.cells #[.int .i64 2,.int .i64 (pm i).line,.int .i64 0,.int .i64 0,.float .f64 0,.string {data:= #[]},.slice none 0 0,.slice none 0 0] 97)=wK at*
 refine (exprs_ws SD.out.ws SD.out.len SD.out.at_ HF.out (pm i).ka (pm i).nk (pm i).kc (pm i).kd HKI.out nk2 hlp.1 (fun q hq=>by have:=HT.out.kid i hi q hq;have:=hlp.2;omega) Zo (fun q hq=>HE.out q hq)).mono ?_
 rintro e w5 ⟨oa,oc,rfl,own5,V5,R5,s5,h5,f5,a5,l5,m5,q5,e5,lr5⟩
 have SE:Hid _:=SD.out.step h5 f5 a5 l5 m5
 have SG:Hid _:=SE.out.setN 7 (.slice oa (pm i).nk oc)
 have Q5:Hid _:=q5
 have ADD:Hid (Adds s s5 l):=Adds.of e5
 clear h5 f5 a5 l5 m5 q5 e5 lr5
 clear zc b0 zb b1 c0 c1 c2 c3 c4 c5 c6 c7 c8 c9
 have n0:=Blk.at_ SE.out.nb 0 rfl
 have n1:=Blk.at_ SE.out.nb 1 rfl
 have n2:=Blk.at_ SE.out.nb 2 rfl
 have n3:=Blk.at_ SE.out.nb 3 rfl
 have n4:=Blk.at_ SE.out.nb 4 rfl
 have n5:=Blk.at_ SE.out.nb 5 rfl
 have n6:=Blk.at_ SE.out.nb 6 rfl
 have n7:=Blk.at_ SE.out.nb 7 rfl
 have nf:=Blk.free SE.out.nb
 have nz:=Blk.lt SE.out.nb
 have p8:=Blk.at_ SE.out.pb 8 rfl
 have pz:=Blk.lt SE.out.pb
 have npn:w.heap.size≠w.heap.size+1:=Zo
 go_wp2_with fail
 clear n0 n1 n2 n3 n4 n5 n6 n7 nf nz p8 pz
 generalize w5.setCell ⟨w.heap.size+1,7,none⟩ (.slice oa (pm i).nk oc)=wS at*
 refine (declare_ws SG.out.ws SG.out.at_.scope (l:=l) SG.out.len i (pm i).na (pm i).nn (pm i).nc (pm i).nm Zo hnm.out).mono ?_
 rintro e w6 ⟨oa2,oc2,vs,rfl,own6,V6,R6,h6,f6,sr6,lr6⟩
 have SI:Hid _:=SG.out.decl h6 f6 sr6
 have SJ:Hid _:=SI.out.setN 6 (.slice oa2 (pm i).nn oc2)
 clear h6 f6 sr6 lr6
 have n0:=Blk.at_ SI.out.nb 0 rfl
 have n1:=Blk.at_ SI.out.nb 1 rfl
 have n2:=Blk.at_ SI.out.nb 2 rfl
 have n3:=Blk.at_ SI.out.nb 3 rfl
 have n4:=Blk.at_ SI.out.nb 4 rfl
 have n5:=Blk.at_ SI.out.nb 5 rfl
 have n6:=Blk.at_ SI.out.nb 6 rfl
 have n7:=Blk.at_ SI.out.nb 7 rfl
 have nf:=Blk.free SI.out.nb
 have nz:=Blk.lt SI.out.nb
 go_wp2_with fail
 refine (add_ws SJ.out.ws Zo SJ.out.len ⟨⟨2,(pm i).line,0,0,0,{data:= #[]},(pm i).nn,fun _=>0,(pm i).nk,fun _=>0⟩,oa2,oc2,oa,oc⟩).mono ?_
 rintro e w9 ⟨r,hr,rfl,hp⟩
 have FIN:Hid _:=SJ.out.fin (r:=r) hp (B2:=B+4000*sz i) Zo (Q:=fun s'=>Rel (pdOf pm) FX l (lp l) (rs l) i s s'/\Adds s s' l) ⟨relC.let_ HKK.out Q5.out,ADD.out.trans (Adds.declare _ _ _ _ _ _)⟩
 exact J22
theorem stat_k8 (tr:Tr w0 tv np pm sz)(hi:i < np)(hk:(pm i).kind=8)(hnk:(pm i).nk=2)(hex:ExprOk w0 wp tv (pdOf pm) FX sz ((pm i).kd 0).toNat)(hbl:BlockOk w0 wp tv (pdOf pm) FX sz ((pm i).kd 1).toNat):StatOk w0 wp tv (pdOf pm) FX sz i:=by
 intro w own V R B lp rs l s h hl hs hf hB hll hlp
 obtain ⟨pa,pc,pb,po,sa,sc',htv,ha,hpa,hpc,hv1,⟨c0,c1,c2,c3,c4,c5,c6,c7,c8,c9⟩,b0,b1,zc,zb,i0,i1,szi,nk2,nn2⟩:=stat_pre tr hi h hs
 have ⟨HH,HL,HS,HF,HT,HA,HTV,HP,HKK,HV1⟩:=hid10 h hl hs hf tr ha htv hpc hk hv1
 have ⟨k1,k2,k3,k4,k5,k6,k15,k13,k16,k7,k8,k9,k10,k11,k12,k14⟩:=kindsAt hk
 obtain ⟨eb,eo,heb,hec⟩:=(ha.2 i hi).2 Zo
 rw[heb] at c9
 obtain ⟨a0,ha0⟩:∃a:Nat,(pm i).kd 0=a:=⟨((pm i).kd 0).toNat,by have:=(tr.kid i hi 0 Zo).1;omega⟩
 have l0:a0 < i:=by have:=(tr.kid i hi 0 Zo).2;omega
 have Y0:Hid (w0.cell? ⟨eb,eo+0,none⟩=some (.int .i64 a0)):=by have:=hec 0 Zo;rw[ha0] at this;exact this
 have A0:Hid ((pm i).kd 0=a0):=ha0
 obtain ⟨a1,ha1⟩:∃a:Nat,(pm i).kd 1=a:=⟨((pm i).kd 1).toNat,by have:=(tr.kid i hi 1 Zo).1;omega⟩
 have l1:a1 < i:=by have:=(tr.kid i hi 1 Zo).2;omega
 have Y1:Hid (w0.cell? ⟨eb,eo+1,none⟩=some (.int .i64 a1)):=by have:=hec 1 Zo;rw[ha1] at this;exact this
 have A1:Hid ((pm i).kd 1=a1):=ha1
 have hsz:sz a0+sz a1+1<=sz i:=by
  exact J85
 have HNK:Hid _:=hnk
 rw[ha0,show ((a0:Int)).toNat=a0 from rfl] at hex
 have HE:Hid _:=hex
 rw[ha1,show ((a1:Int)).toNat=a1 from rfl] at hbl
 have HB:Hid _:=hbl
 have kn:((pm i).nk:Int)=2:=Zo
 have y0:w.cell? ⟨eb,eo,none⟩=some (.int .i64 a0):=con h.wk.ov Y0.out
 have zy0:=clt y0
 have n0k:(0:Int) < ((pm i).nk:Int):=Zo
 have n1k:(1:Int) < ((pm i).nk:Int):=Zo
 clear kn hex hbl hec ha0 ha1 hnk heb
 clear h hl hs hf tr ha hpc htv hk hv1
 go_enter Tryz.func40,Tryz.ntmps40
 go_wp2_with fail
 have SD:Hid _:=Sd.start HH.out HL.out HS.out (PB (pm i) (some ⟨eb,eo,none⟩) (pm i).nk) #[.int .i64 6,.int .i64 (pm i).line,.int .i64 0,.int .i64 0,.float .f64 0,.string {data:= #[]},.slice none 0 0,.slice none 0 0]
 generalize (w.alloc (Obj.cells (PB (pm i) (some ⟨eb,eo,none⟩) (pm i).nk) 67)).alloc (Obj.cells #[.int .i64 6,.int .i64 (pm i).line,.int .i64 0,.int .i64 0,.float .f64 0,.string {data:= #[]},.slice none 0 0,.slice none 0 0] 97)=wK at*
 refine (HE.out _ own V R B lp rs l s SD.out.ws SD.out.len SD.out.at_ HF.out Zo Zo ⟨hlp.1,by have:=hlp.2;omega⟩).mono ?_
 rintro e w5 ⟨x,hx,rfl,hp⟩
 obtain ⟨own5,V5,R5,s5,h5,⟨q5,e5⟩,_⟩:=SD.out.postS hp
 have SE:Hid _:=h5
 have Q5:Hid _:=q5
 have E5:Hid _:=e5
 clear hp h5 q5 e5 y0 zy0
 clear zc b0 zb b1 c0 c1 c2 c3 c4 c5 c6 c7 c8 c9
 have p9:=Blk.at_ SE.out.pb 9 rfl
 have pz:=Blk.lt SE.out.pb
 have y1:w5.cell? ⟨eb,eo+1,none⟩=some (.int .i64 a1):=con SE.out.ws.wk.ov Y1.out
 have zy1:=clt y1
 go_wp2_with fail
 clear p9 pz y1 zy1
 refine (loop_ws SE.out.ws SE.out.len SE.out.at_ (SFn.of HF.out E5.out) (i:=a1) Zo Zo ⟨hlp.1,by have:=hlp.2;omega⟩ HB.out).mono ?_
 rintro e w6 ⟨y,hy,rfl,hp⟩
 obtain ⟨own6,V6,R6,s6,h6,⟨q6,e6⟩,_⟩:=SE.out.postS hp
 have SG:Hid _:=h6
 have Q6:Hid _:=q6
 have E6:Hid _:=e6
 have SH:Hid _:=(SG.out.setN 7 (.slice (some ⟨w6.heap.size,0,none⟩) 2 2)).onw (Onw.alloc _ (.cells #[.int .i64 x,.int .i64 y] 3))
 clear hp h6 q6 e6
 have n0:=Blk.at_ SG.out.nb 0 rfl
 have n1:=Blk.at_ SG.out.nb 1 rfl
 have n2:=Blk.at_ SG.out.nb 2 rfl
 have n3:=Blk.at_ SG.out.nb 3 rfl
 have n4:=Blk.at_ SG.out.nb 4 rfl
 have n5:=Blk.at_ SG.out.nb 5 rfl
 have n6:=Blk.at_ SG.out.nb 6 rfl
 have n7:=Blk.at_ SG.out.nb 7 rfl
 have nf:=Blk.free SG.out.nb
 have nz:=Blk.lt SG.out.nb
 go_wp2_with fail
 refine (add_ws SH.out.ws Zo SH.out.len ⟨⟨6,(pm i).line,0,0,0,{data:= #[]},0,fun _=>0,2,fun _=>0⟩,none,0,some ⟨w6.heap.size,0,none⟩,2⟩).mono ?_
 rintro e w9 ⟨r,hr,rfl,hp⟩
 have FIN:Hid _:=SH.out.fin (r:=r) hp (B2:=B+4000*sz i) Zo (Q:=fun s'=>Rel (pdOf pm) FX l (lp l) (rs l) i s s'/\Adds s s' l) ⟨relC.while_ HKK.out (by rw[show (pdOf pm i).kd 0=(a0:Int) from A0.out];exact Q5.out) (by rw[show (pdOf pm i).kd 1=(a1:Int) from A1.out];exact Q6.out),Adds.of (E6.out.trans E5.out)⟩
 exact J22
theorem stat_k4 (tr:Tr w0 tv np pm sz)(hi:i < np)(hk:(pm i).kind=4)(hnk:(pm i).nk=1)(hnn:(pm i).nn=1)(hbo:BodyOk w0 wp tv (pdOf pm) FX sz ((pm i).kd 0).toNat):StatOk w0 wp tv (pdOf pm) FX sz i:=by
 intro w own V R B lp rs l s h hl hs hf hB hll hlp
 obtain ⟨pa,pc,pb,po,sa,sc',htv,ha,hpa,hpc,hv1,⟨c0,c1,c2,c3,c4,c5,c6,c7,c8,c9⟩,b0,b1,zc,zb,i0,i1,szi,nk2,nn2⟩:=stat_pre tr hi h hs
 have ⟨HH,HL,HS,HF,HT,HA,HTV,HP,HKK,HV1⟩:=hid10 h hl hs hf tr ha htv hpc hk hv1
 have ⟨k1,k2,k3,k4,k5,k6,k15,k13,k16,k7,k8,k9,k10,k11,k12,k14⟩:=kindsAt hk
 obtain ⟨eb,eo,heb,hec⟩:=(ha.2 i hi).2 Zo
 rw[heb] at c9
 obtain ⟨a0,ha0⟩:∃a:Nat,(pm i).kd 0=a:=⟨((pm i).kd 0).toNat,by have:=(tr.kid i hi 0 Zo).1;omega⟩
 have l0:a0 < i:=by have:=(tr.kid i hi 0 Zo).2;omega
 have Y0:Hid (w0.cell? ⟨eb,eo+0,none⟩=some (.int .i64 a0)):=by have:=hec 0 Zo;rw[ha0] at this;exact this
 have A0:Hid ((pm i).kd 0=a0):=ha0
 have hsz:sz a0+1<=sz i:=by
  exact J102
 have HNK:Hid _:=hnk
 obtain ⟨nb,no,hnb,hnc⟩:=(ha.2 i hi).1 Zo
 rw[hnb] at c8
 have NY:Hid (w0.cell? ⟨nb,no,none⟩=some (.string ((pm i).nm 0))):=by have:=hnc 0 Zo;exact this
 have hnm:Hid (StrsAt w0 (some ⟨nb,no,none⟩) 1 (pm i).nm):=by have:=(ha.2 i hi).1;rw[hnb,hnn] at this;exact this
 rw[ha0,show ((a0:Int)).toNat=a0 from rfl] at hbo
 have HB:Hid _:=hbo
 have HNN:Hid _:=hnn
 rw[hnk] at c9 nk2
 rw[hnn] at c8 nn2
 clear hbo hec ha0 hnk heb hnb hnc hnn
 clear h hl hs hf tr ha hpc htv hk hv1
 go_enter Tryz.func40,Tryz.ntmps40
 go_wp2_with fail
 have SD:Hid _:=Sd.start HH.out HL.out HS.out #[.int .i64 (pm i).kind,.int .i64 (pm i).frm,.int .i64 (pm i).tto,.int .i64 (pm i).line,.int .i64 (pm i).op,.int .i64 (pm i).num,.float .f64 (pm i).flt,.string (pm i).text,.slice (some ⟨nb,no,none⟩) 1 (pm i).nc,.slice (some ⟨eb,eo,none⟩) 1 (pm i).kc] #[.int .i64 0,.int .i64 (pm i).line,.int .i64 0,.int .i64 0,.float .f64 0,.string {data:= #[]},.slice none 0 0,.slice none 0 0]
 have zK:w.heap.size+2<=((w.alloc (Obj.cells #[.int .i64 (pm i).kind,.int .i64 (pm i).frm,.int .i64 (pm i).tto,.int .i64 (pm i).line,.int .i64 (pm i).op,.int .i64 (pm i).num,.float .f64 (pm i).flt,.string (pm i).text,.slice (some ⟨nb,no,none⟩) 1 (pm i).nc,.slice (some ⟨eb,eo,none⟩) 1 (pm i).kc] 67)).alloc (Obj.cells #[.int .i64 0,.int .i64 (pm i).line,.int .i64 0,.int .i64 0,.float .f64 0,.string {data:= #[]},.slice none 0 0,.slice none 0 0] 97)).heap.size:=J269
 generalize (w.alloc (Obj.cells #[.int .i64 (pm i).kind,.int .i64 (pm i).frm,.int .i64 (pm i).tto,.int .i64 (pm i).line,.int .i64 (pm i).op,.int .i64 (pm i).num,.float .f64 (pm i).flt,.string (pm i).text,.slice (some ⟨nb,no,none⟩) 1 (pm i).nc,.slice (some ⟨eb,eo,none⟩) 1 (pm i).kc] 67)).alloc (Obj.cells #[.int .i64 0,.int .i64 (pm i).line,.int .i64 0,.int .i64 0,.float .f64 0,.string {data:= #[]},.slice none 0 0,.slice none 0 0] 97)=wK at*
 clear zc b0 zb b1 c0 c1 c2 c3 c4 c5 c6 c7 c8 c9
 refine (declare_ws SD.out.ws SD.out.at_.scope (l:=l) SD.out.len i (some ⟨nb,no,none⟩) 1 (pm i).nc (pm i).nm Zo hnm.out).mono ?_
 rintro e w5 ⟨oa,oc,vs,rfl,own5,V5,R5,h5,f5,sr5,lr5⟩
 obtain ⟨gv,qv,hoa,hgb,hgo,hgc,hgcell⟩:=LRow.cell lr5 (i:=0) J302
 subst hoa
 have SE:Hid _:=SD.out.decl h5 f5 sr5
 have sg:=(SE.out.setN 0 (.int .i64 2)).setN 6 (.slice (some ⟨gv,0,none⟩) 1 oc)
 simp only[List.setIfInBounds_toArray,List.set_cons_zero,List.set_cons_succ] at sg
 have SG:Hid _:=sg
 have hgn:w.heap.size+2<=gv:=Nat.le_trans zK hgb
 have GV:Hid (∃q,((w5.setCell ⟨w.heap.size+1,0,none⟩ (.int .i64 2)).setCell ⟨w.heap.size+1,6,none⟩ (.slice (some ⟨gv,0,none⟩) 1 oc)).cell? ⟨gv,0,none⟩=some (.int .i64 qv)/\gv < w5.heap.size/\q=qv):=⟨qv,by rw[World.cell?_of_block (a:=⟨gv,0,none⟩) ((ksc _ _ _ _ gv Zo).trans (ksc _ _ _ _ gv Zo))];exact hgcell,clt hgcell,rfl⟩
 have GO:Hid _:=hgo
 clear h5 f5 sr5 lr5 sg hgcell hgo hgc hgb
 have n0:=Blk.at_ SE.out.nb 0 rfl
 have n1:=Blk.at_ SE.out.nb 1 rfl
 have n2:=Blk.at_ SE.out.nb 2 rfl
 have n3:=Blk.at_ SE.out.nb 3 rfl
 have n4:=Blk.at_ SE.out.nb 4 rfl
 have n5:=Blk.at_ SE.out.nb 5 rfl
 have n6:=Blk.at_ SE.out.nb 6 rfl
 have n7:=Blk.at_ SE.out.nb 7 rfl
 have nf:=Blk.free SE.out.nb
 have nz:=Blk.lt SE.out.nb
 go_wp2_with fail
 clear n0 n1 n2 n3 n4 n5 n6 n7 nf nz
 have zS:Hid (w5.heap.size<=((w5.setCell ⟨w.heap.size+1,0,none⟩ (.int .i64 2)).setCell ⟨w.heap.size+1,6,none⟩ (.slice (some ⟨gv,0,none⟩) 1 oc)).heap.size):=by simp[Hid]
 generalize (w5.setCell ⟨w.heap.size+1,0,none⟩ (.int .i64 2)).setCell ⟨w.heap.size+1,6,none⟩ (.slice (some ⟨gv,0,none⟩) 1 oc)=wS at*
 refine (add_ws SG.out.ws J302 SG.out.len ⟨⟨2,(pm i).line,0,0,0,{data:= #[]},1,fun _=>0,0,fun _=>0⟩,some ⟨gv,0,none⟩,oc,none,0⟩).mono ?_
 rintro e w6 ⟨x6,hx6,rfl,hp⟩
 obtain ⟨own6,V6,R6,h6,f6⟩:=SG.out.post hp
 have SH:Hid _:=h6
 have v0:w6.cell? ⟨gv,0,none⟩=some (.int .i64 qv):=by
  obtain ⟨q,g1,g2,_⟩:=GV.out
  rw[<-g1]
  exact World.cell?_of_block (a:=⟨gv,0,none⟩) (f6.kept gv ⟨Nat.lt_of_lt_of_le g2 zS.out,GO.out⟩)
 have zv:=clt v0
 clear hp h6 f6
 go_wp2_with fail
 refine (add_ws (SH.out.ws.onw (Onw.alloc _ _)) J302 SH.out.len ⟨⟨26,0,0,0,0,{data:= #[]},1,fun _=>0,0,fun _=>0⟩,some ⟨w6.heap.size,0,none⟩,1,none,0⟩).mono ?_
 rintro e w7 ⟨x7,hx7,rfl,hp⟩
 obtain ⟨own7,V7,R7,h7,f7⟩:=(SH.out.onw (Onw.alloc w6 (.cells #[.int .i64 qv] 3))).post hp
 have SI:Hid _:=h7
 clear hp h7 f7 v0 zv
 have p9:=Blk.at_ SI.out.pb 9 rfl
 have p8:=Blk.at_ SI.out.pb 8 rfl
 have pz:=Blk.lt SI.out.pb
 have y0:w7.cell? ⟨eb,eo,none⟩=some (.int .i64 a0):=con SI.out.ws.wk.ov Y0.out
 have zy0:=clt y0
 have m0:w7.cell? ⟨nb,no,none⟩=some (.string ((pm i).nm 0)):=con SI.out.ws.wk.ov NY.out
 have zm0:=clt m0
 go_upto_region 21 with (fail)
 go_cut [12] (fun zv wd=>∃(z:Nat) (own8:Nat->Nat) (V8:Nat->Value) (R8:Nat->List (List Value)) (s8:St),zv= .int .i64 z/\z<=16777216/\Sd w0 wp tv w own R l #[.int .i64 (pm i).kind,.int .i64 (pm i).frm,.int .i64 (pm i).tto,.int .i64 (pm i).line,.int .i64 (pm i).op,.int .i64 (pm i).num,.float .f64 (pm i).flt,.string (pm i).text,.slice (some ⟨nb,no,none⟩) 1 (pm i).nc,.slice (some ⟨eb,eo,none⟩) 1 (pm i).kc] (B+4*1+1+1+4000*sz a0) lp rs #[.int .i64 2,.int .i64 (pm i).line,.int .i64 0,.int .i64 0,.float .f64 0,.string {data:= #[]},.slice (some ⟨gv,0,none⟩) 1 oc,.slice none 0 0] wd own8 V8 R8 s8/\Rel (pdOf pm) FX l (lp l) (rs l) a0 (s.declare i (pm i).nm l vs 1) s8/\s8.sc=(s.declare i (pm i).nm l vs 1).sc)
 case first=>
  go_region_held3 (fun w'=>w'.cell? ⟨w.heap.size,9,none⟩=some (.slice (some ⟨eb,eo,none⟩) 1 (pm i).kc)/\w'.cell? ⟨eb,eo,none⟩=some (.int .i64 a0)/\w'.cell? ⟨w.heap.size,8,none⟩=some (.slice (some ⟨nb,no,none⟩) 1 (pm i).nc)/\w'.cell? ⟨nb,no,none⟩=some (.string ((pm i).nm 0)))
   (first
    |go_keep
    |exact KE8.out)
   (first
    |(go_at_call 62;refine (HB.out ((pm i).nm 0) _ own7 V7 R7 _ lp rs l _ (SI.out.ws.onw (Below.drew (Onw.refl _))) SI.out.len SI.out.at_ (SFn.adds HF.out (Adds.declare _ _ _ _ _ _)) J302 Zo ⟨hlp.1,by have:=hlp.2;omega⟩).mono ?_;rintro e w8 ⟨z,hz,rfl,hp⟩;obtain ⟨own8,V8,R8,s8,h8,⟨q8,e8⟩,f8⟩:=(SI.out.onw (Below.drew (Onw.refl _))).postS hp;have KE8:Hid (w8.cell? ⟨w.heap.size,9,none⟩=some (.slice (some ⟨eb,eo,none⟩) 1 (pm i).kc)/\w8.cell? ⟨eb,eo,none⟩=some (.int .i64 a0)/\w8.cell? ⟨w.heap.size,8,none⟩=some (.slice (some ⟨nb,no,none⟩) 1 (pm i).nc)/\w8.cell? ⟨nb,no,none⟩=some (.string ((pm i).nm 0))):=⟨(Blk.cell h8.pb 9).trans rfl,con h8.ws.wk.ov Y0.out,(Blk.cell h8.pb 8).trans rfl,con h8.ws.wk.ov NY.out⟩;have SJ:Hid _:=h8;have Q8:Hid _:=q8;have E8:Hid _:=e8;clear hp h8 q8 e8 f8))
  go_wp2_with fail
  go_meet
  case rel=>exact ⟨z,own8,V8,R8,s8,rfl,hz,SJ.out,Q8.out,E8.out⟩
 case rest=>
  obtain ⟨z,own8,V8,R8,s8,rfl,hz,h8,q8,e8⟩:=hcut
  have SJ:Hid _:=h8
  have Q8:Hid _:=q8
  have E8:Hid _:=e8
  clear h8 q8 e8 p9 p8 pz y0 zy0 m0 zm0
  have p3:=Blk.at_ SJ.out.pb 3 rfl
  have pz:=Blk.lt SJ.out.pb
  go_wp2_with fail
  refine (add_ws (SJ.out.ws.onw (Onw.alloc _ _)) J302 SJ.out.len ⟨⟨3,(pm i).line,0,1,0,{data:= #[]},0,fun _=>0,2,fun _=>0⟩,none,0,some ⟨wc.heap.size,0,none⟩,2⟩).mono ?_
  rintro e w9 ⟨r9,hr9,rfl,hp⟩
  obtain ⟨own9,V9,R9,h9,f9⟩:=(SJ.out.onw (Onw.alloc wc (.cells #[.int .i64 x7,.int .i64 z] 3))).post hp
  have FIN:Hid _:=h9.ret2 x6 r9 (B2:=B+4000*sz i) J302 (Q:=fun s'=>Rel (pdOf pm) FX l (lp l) (rs l) i s s'/\Adds s s' l) ⟨relC.sfn HKK.out (vs:=vs) (by rw[show (pdOf pm i).kd 0=(a0:Int) from A0.out,show (pdOf pm i).nn=1 from HNN.out];exact Q8.out),(Adds.declare _ _ _ _ _ _).trans (Adds.of E8.out)⟩
  clear hp h9 f9
  go_wp2_with fail
  go_ret
  obtain ⟨a1,a2,a3,a4,b1,b2,b3,b4,b5,⟨b6,b7⟩,b8⟩:=FIN.out
  exact ⟨_,2,2,by omega,fun _=>by omega,rfl,a1,a2,a3,a4,b1,b2,b3,b4,b5,b6,b7,b8⟩
end Go.Proofs.YtlibofjbhhdjdaaGreat
