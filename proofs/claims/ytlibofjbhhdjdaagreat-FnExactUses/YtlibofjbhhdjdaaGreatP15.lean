import Derived.Test.YtlibofjbhhdjdaaGreatQ
import Derived.Test.YtlibofjbhhdjdaaGreatP13
set_option linter.unusedSimpArgs false
set_option maxRecDepth 100000
set_option maxHeartbeats 16000000
namespace Go.Proofs.YtlibofjbhhdjdaaGreat
open Go.RowKit
attribute [local go_sem] rsf
variable {FX:List SNm->Nat->CV->Prop} {i np wp:Nat} {sz:Nat->Nat} {pm:Nat->PM} {tv:Value} {w0:World}
theorem stat_k10 (tr:Tr w0 tv np pm sz)(hi:i < np)(hk:(pm i).kind=10)(hnk:(pm i).nk=2)(hcap:(pm i).nk<=(pm i).kc)(hex:∀q,q < 1->ExprOk w0 wp tv (pdOf pm) FX sz ((pm i).kd q).toNat)(hbl:BlockOk w0 wp tv (pdOf pm) FX sz ((pm i).kd 1).toNat):StatOk w0 wp tv (pdOf pm) FX sz i:=by
 intro w own V R B lp rs l s h hl hs hf hB hll hlp
 obtain ⟨pa,pc,pb,po,sa,sc',htv,ha,hpa,hpc,hv1,⟨c0,c1,c2,c3,c4,c5,c6,c7,c8,c9⟩,b0,b1,zc,zb,i0,i1,szi,nk2,nn2⟩:=stat_pre tr hi h hs
 have ⟨HH,HL,HS,HF,HT,HA,HTV,HP,HKK,HV1⟩:=hid10 h hl hs hf tr ha htv hpc hk hv1
 have ⟨k1,k2,k3,k4,k5,k6,k15,k13,k16,k7,k8,k9,k10,k11,k12,k14⟩:=kindsAt hk
 have HE:Hid _:=hex
 obtain ⟨eb,eo,heb,hec⟩:=(ha.2 i hi).2 Zo
 rw[heb] at c9
 obtain ⟨a0,ha0⟩:∃a:Nat,(pm i).kd 0=a:=⟨((pm i).kd 0).toNat,by have:=(tr.kid i hi 0 Zo).1;omega⟩
 have l0:a0 < i:=by have:=(tr.kid i hi 0 Zo).2;omega
 have Y0:Hid (w0.cell? ⟨eb,eo+0,none⟩=some (.int .i64 a0)):=by have:=hec 0 Zo;rw[ha0] at this;exact this
 have A0:Hid ((pm i).kd 0=a0):=ha0
 obtain ⟨a1,ha1⟩:∃a:Nat,(pm i).kd 1=a:=⟨((pm i).kd 1).toNat,by have:=(tr.kid i hi 1 Zo).1;omega⟩
 have l1:a1 < i:=by have:=(tr.kid i hi 1 Zo).2;omega
 have Y1:Hid (w0.cell? ⟨eb,eo+1,none⟩=some (.int .i64 a1)):=by have:=hec 1 Zo;rw[ha1] at this;exact this
 have A1:Hid ((pm i).kd 1=a1):=ha1
 have hsz:sz a0+sz a1+1<=sz i:=by
  exact J85
 have HNK:Hid _:=hnk
 have hnm:Hid _:=(ha.2 i hi).1
 have hps:psum sz (pm i).kd 1+sz a1+1<=sz i:=by
  have e:=tr.szs i hi
  rw[hnk,psum,ha1] at e
  exact e
 rw[ha1,show ((a1:Int)).toNat=a1 from rfl] at hbl
 have HB:Hid _:=hbl
 have HKI:Hid (IntsAt w0 (some ⟨eb,eo,none⟩) 1 (pm i).kd):=fun _=>⟨eb,eo,rfl,fun q hq=>hec q Zo⟩
 have kc2:(1:Int)<=((pm i).kc:Int):=Zo
 have kc3:1<=(pm i).kc:=Zo
 rw[hnk] at c9 nk2
 clear hex hbl hec ha0 ha1 hnk heb hcap
 clear h hl hs hf tr ha hpc htv hk hv1
 go_enter Tryz.func40,Tryz.ntmps40
 go_wp2_with fail
 have SD:Hid _:=Sd.start HH.out HL.out HS.out (PB (pm i) (some ⟨eb,eo,none⟩) 2) #[.int .i64 8,.int .i64 (pm i).line,.int .i64 0,.int .i64 0,.float .f64 0,.string {data:= #[]},.slice none 0 0,.slice none 0 0]
 have zK:w.heap.size+2<=((w.alloc (Obj.cells (PB (pm i) (some ⟨eb,eo,none⟩) 2) 67)).alloc (Obj.cells #[.int .i64 8,.int .i64 (pm i).line,.int .i64 0,.int .i64 0,.float .f64 0,.string {data:= #[]},.slice none 0 0,.slice none 0 0] 97)).heap.size:=J269
 generalize (w.alloc (Obj.cells (PB (pm i) (some ⟨eb,eo,none⟩) 2) 67)).alloc (Obj.cells #[.int .i64 8,.int .i64 (pm i).line,.int .i64 0,.int .i64 0,.float .f64 0,.string {data:= #[]},.slice none 0 0,.slice none 0 0] 97)=wK at*
 clear zc b0 zb b1 c0 c1 c2 c3 c4 c5 c6 c7 c8 c9
 refine (exprs_ws SD.out.ws SD.out.len SD.out.at_ HF.out (some ⟨eb,eo,none⟩) 1 (pm i).kc (pm i).kd HKI.out Zo hlp.1 (fun q hq=>by have:=HT.out.kid i hi q (by have:=HNK.out;omega);have:=hlp.2;omega) Zo (fun q hq=>HE.out q hq)).mono ?_
 rintro e w5 ⟨oa,oc,rfl,own5,V5,R5,s5,h5,f5,a5,l5,m5,q5,e5,lr5⟩
 have SE:Hid _:=SD.out.step h5 f5 a5 l5 m5
 have LR5:Hid _:=(lr5.base zK).far (b:=w.heap.size+1) Zo 7 (.slice oa 1 oc)
 have Q5:Hid _:=q5
 have E5:Hid _:=e5
 clear h5 f5 a5 l5 m5 q5 e5 lr5
 have sg:=SE.out.setN 7 (.slice oa 1 oc)
 have LR6:Hid _:=LR5.out
 simp only[List.setIfInBounds_toArray,List.set_cons_zero,List.set_cons_succ] at sg
 have SG:Hid _:=sg
 clear sg
 have n0:=Blk.at_ SE.out.nb 0 rfl
 have n1:=Blk.at_ SE.out.nb 1 rfl
 have n2:=Blk.at_ SE.out.nb 2 rfl
 have n3:=Blk.at_ SE.out.nb 3 rfl
 have n4:=Blk.at_ SE.out.nb 4 rfl
 have n5:=Blk.at_ SE.out.nb 5 rfl
 have n6:=Blk.at_ SE.out.nb 6 rfl
 have n7:=Blk.at_ SE.out.nb 7 rfl
 have nf:=Blk.free SE.out.nb
 have nz:=Blk.lt SE.out.nb
 have p0:=Blk.at_ SE.out.pb 0 rfl
 have p8:=Blk.at_ SE.out.pb 8 rfl
 have pz:=Blk.lt SE.out.pb
 have npn:w.heap.size≠w.heap.size+1:=Zo
 go_wp2_with fail
 clear n0 n1 n2 n3 n4 n5 n6 n7 nf nz p0 p8 pz
 generalize w5.setCell ⟨w.heap.size+1,7,none⟩ (.slice oa 1 oc)=wS at*
 refine (declare_ws SG.out.ws SG.out.at_.scope (l:=l) SG.out.len i (pm i).na (pm i).nn (pm i).nc (pm i).nm Zo hnm.out).mono ?_
 rintro e w7 ⟨oa2,oc2,vs,rfl,own7,V7,R7,h7,f7,sr7,lr7⟩
 have sj:=SG.out.decl h7 f7 sr7
 have SJ:Hid _:=sj
 have LR9:Hid _:=(LRow.fr LR6.out f7).far (b:=w.heap.size+1) Zo 6 (.slice oa2 (pm i).nn oc2)
 have sk:=sj.setN 6 (.slice oa2 (pm i).nn oc2)
 simp only[List.setIfInBounds_toArray,List.set_cons_zero,List.set_cons_succ] at sk
 have SK:Hid _:=sk
 clear h7 f7 sr7 lr7 sj sk
 have n0:=Blk.at_ SJ.out.nb 0 rfl
 have n1:=Blk.at_ SJ.out.nb 1 rfl
 have n2:=Blk.at_ SJ.out.nb 2 rfl
 have n3:=Blk.at_ SJ.out.nb 3 rfl
 have n4:=Blk.at_ SJ.out.nb 4 rfl
 have n5:=Blk.at_ SJ.out.nb 5 rfl
 have n6:=Blk.at_ SJ.out.nb 6 rfl
 have n7:=Blk.at_ SJ.out.nb 7 rfl
 have nf:=Blk.free SJ.out.nb
 have nz:=Blk.lt SJ.out.nb
 have p9:=Blk.at_ SJ.out.pb 9 rfl
 have pz:=Blk.lt SJ.out.pb
 have y1:w7.cell? ⟨eb,eo+1,none⟩=some (.int .i64 a1):=con SJ.out.ws.wk.ov Y1.out
 have zy1:=clt y1
 have npn:w.heap.size≠w.heap.size+1:=Zo
 have ebn:eb≠w.heap.size+1:=by have:=clt Y1.out;have:=SJ.out.base;omega
 go_wp2_with fail
 clear n0 n1 n2 n3 n4 n5 n6 n7 nf nz p9 pz y1 zy1 ebn
 generalize w7.setCell ⟨w.heap.size+1,6,none⟩ (.slice oa2 (pm i).nn oc2)=wL at*
 refine (loop_ws SK.out.ws SK.out.len SK.out.at_ (SFn.adds (SFn.of HF.out E5.out) (Adds.declare _ _ _ _ _ _)) (i:=a1) Zo Zo ⟨hlp.1,by have:=hlp.2;omega⟩ HB.out).mono ?_
 rintro e w8 ⟨x8,hx8,rfl,hp⟩
 obtain ⟨own8,V8,R8,s8,h8,⟨q8,e8⟩,f8⟩:=SK.out.postS hp
 have SL:Hid _:=h8
 have Q8:Hid _:=q8
 have E8:Hid _:=e8
 have LR10:Hid _:=LRow.fr LR9.out f8
 clear hp h8 q8 e8 f8
 obtain ⟨ol,r2a,r2b,r2c⟩:=LR10.out
 have RA:Hid _:=r2a
 have RB:Hid _:=r2b
 have RC:Hid _:=r2c
 have hxo:=r2a.row
 rw[r2b] at hxo
 clear r2a r2b r2c
 obtain ⟨i2,hi2,hy0,hy1,hy2⟩:=info_parts info_int
 have N:=Blk.new w8 3 #[.int .i64 x8]
 have zf:=SL.out.fr.size
 have zn:=Blk.lt SL.out.nb
 have n7:=Blk.at_ SL.out.nb 7 rfl
 go_upto_region 73 with (first|(at_builtin;refine wpList_app _ rfl (.tmp 273) (.tmp 275) 64 rfl (w.heap.size+2) 3 i2 _ 1 8 Tryz.underlying64 hi2 hy0 hy1 hy2 rfl Zb (.slice oa 1 oc) 1 ol.flatten rfl (World.ownsRow.alloc hxo _) ⟨w8.heap.size,0,none⟩ 1 1 [.int .i64 x8] rfl rfl (fun j u hj=>by rw[Go.WideShapes.add_plain,N.cell,Nat.zero_add];simpa using hj) J262 Zb Zm Zo Zj ?_;intro g11 cap11 w11 hown hgrow hwhere;obtain ⟨ap1,ap2⟩:=SL.out.app RA.out RB.out RC.out (Onw.alloc _ _) hown hgrow hwhere;have n72:w11.cell? ⟨w.heap.size+1,7,none⟩=some (.slice oa 1 oc):=(Blk.cell ap1.nb 7).trans rfl;have nf2:=Blk.free ap1.nb;have nz2:=Blk.lt ap1.nb;have AQ:Hid _:=ap1;have AQL:Hid _:=ap2;have sm:=ap1.setN 7 (.slice (some ⟨g11,0,none⟩) 2 cap11);simp only[List.setIfInBounds_toArray,List.set_cons_zero,List.set_cons_succ] at sm;have SM:Hid _:=sm;clear sm ap1 ap2 hown hgrow hwhere))
 clear n72 nf2 nz2 RA RB RC hxo N zf zn n7 i2 hi2 hy0 hy1 hy2
 generalize w11.setCell ⟨w.heap.size+1,7,none⟩ (.slice (some ⟨g11,0,none⟩) 2 cap11)=wM at*
 have ADM:Hid (Adds s s8 l):=((Adds.of E5.out).trans (Adds.declare s5 i (pm i).nm l vs (pm i).nn)).trans (Adds.of E8.out)
 have n0:=Blk.at_ SM.out.nb 0 rfl
 have n1:=Blk.at_ SM.out.nb 1 rfl
 have n2:=Blk.at_ SM.out.nb 2 rfl
 have n3:=Blk.at_ SM.out.nb 3 rfl
 have n4:=Blk.at_ SM.out.nb 4 rfl
 have n5:=Blk.at_ SM.out.nb 5 rfl
 have n6:=Blk.at_ SM.out.nb 6 rfl
 have n7:=Blk.at_ SM.out.nb 7 rfl
 have nf:=Blk.free SM.out.nb
 have nz:=Blk.lt SM.out.nb
 have hsl:=SM.out.ws.slice (j:=1) Zo Zo
 have hr1:Hid ((R8 1).length=s8.sc.length):=J281
 have hle:Hid (s.sc.length<=s8.sc.length):=J268
 have bw1:=Blk.at_ SM.out.ws.blk 1 rfl
 have bwf:=SM.out.ws.blk.free
 have bwz:=SM.out.ws.blk.lt
 have nwp:wp≠w.heap.size+1:=J296
 rcases hsl with ⟨hv,hl0⟩|⟨g,cap,hv,hnc,hgb⟩
 ·have hz:s.sc.length=0:=J263
  rw[hv] at bw1
  have CU:Hid _:=SM.out.cut (m:=0) hv (Nat.zero_le _)
  have HZ:Hid _:=hz
  clear hv hl0
  simp only[hz]
  clear hz
  go_wp2_with fail
  obtain ⟨V9,R9,h9⟩:=CU.out
  have S9:Hid _:=h9
  clear h9
  refine (add_ws S9.out.ws Zo S9.out.len ⟨⟨8,(pm i).line,0,0,0,{data:= #[]},(pm i).nn,fun _=>0,2,fun _=>0⟩,oa2,oc2,some ⟨g11,0,none⟩,cap11⟩).mono ?_
  rintro e w9 ⟨r,hr,rfl,hp⟩
  have FIN:Hid _:=S9.out.fin (r:=r) hp (B2:=B+4000*sz i) Zo (Q:=fun s'=>Rel (pdOf pm) FX l (lp l) (rs l) i s s'/\Adds s s' l) ⟨by have e:=HZ.out;have q:Rel (pdOf pm) FX l (lp l) (rs l) i s (s8.cut s.sc.length):=(by have:=relC.for_ (pd:=pdOf pm) (FX:=FX) (l:=l) (lo:=lp l) (re:=rs l) (i:=i) (s:=s) (s1:=s5) (s2:=s8) (vs:=vs) (Or.inr HKK.out) J267 (by show Rel _ _ _ _ _ ((pm i).kd ((pm i).nk-1)).toNat _ _;rw[HNK.out,A1.out];exact Q8.out);exact this);rw[e] at q;exact q,by have e:=HZ.out;have q:Adds s (s8.cut s.sc.length) l:=Adds.of (Adds.cut ADM.out);rw[e] at q;exact q⟩
  exact J22
 ·rw[hv] at bw1
  have m0:(0:Int)<=(s.sc.length:Int):=Zo
  have m1:(s.sc.length:Int)<=(cap:Int):=J263
  have CU:Hid _:=SM.out.cut (m:=s.sc.length) hv J300
  clear hv hnc
  go_wp2_with fail
  obtain ⟨V9,R9,h9⟩:=CU.out
  have S9:Hid _:=h9
  clear h9
  refine (add_ws S9.out.ws Zo S9.out.len ⟨⟨8,(pm i).line,0,0,0,{data:= #[]},(pm i).nn,fun _=>0,2,fun _=>0⟩,oa2,oc2,some ⟨g11,0,none⟩,cap11⟩).mono ?_
  rintro e w9 ⟨r,hr,rfl,hp⟩
  have FIN:Hid _:=S9.out.fin (r:=r) hp (B2:=B+4000*sz i) Zo (Q:=fun s'=>Rel (pdOf pm) FX l (lp l) (rs l) i s s'/\Adds s s' l) ⟨(by have:=relC.for_ (pd:=pdOf pm) (FX:=FX) (l:=l) (lo:=lp l) (re:=rs l) (i:=i) (s:=s) (s1:=s5) (s2:=s8) (vs:=vs) (Or.inr HKK.out) J267 (by show Rel _ _ _ _ _ ((pm i).kd ((pm i).nk-1)).toNat _ _;rw[HNK.out,A1.out];exact Q8.out);exact this),Adds.of (Adds.cut ADM.out)⟩
  exact J22
theorem stat_k9_3 (tr:Tr w0 tv np pm sz)(hi:i < np)(hk:(pm i).kind=9)(hnk:(pm i).nk=3)(hcap:(pm i).nk<=(pm i).kc)(hex:∀q,q < 2->ExprOk w0 wp tv (pdOf pm) FX sz ((pm i).kd q).toNat)(hbl:BlockOk w0 wp tv (pdOf pm) FX sz ((pm i).kd 2).toNat):StatOk w0 wp tv (pdOf pm) FX sz i:=by
 intro w own V R B lp rs l s h hl hs hf hB hll hlp
 obtain ⟨pa,pc,pb,po,sa,sc',htv,ha,hpa,hpc,hv1,⟨c0,c1,c2,c3,c4,c5,c6,c7,c8,c9⟩,b0,b1,zc,zb,i0,i1,szi,nk2,nn2⟩:=stat_pre tr hi h hs
 have ⟨HH,HL,HS,HF,HT,HA,HTV,HP,HKK,HV1⟩:=hid10 h hl hs hf tr ha htv hpc hk hv1
 have ⟨k1,k2,k3,k4,k5,k6,k15,k13,k16,k7,k8,k9,k10,k11,k12,k14⟩:=kindsAt hk
 have HE:Hid _:=hex
 obtain ⟨eb,eo,heb,hec⟩:=(ha.2 i hi).2 Zo
 rw[heb] at c9
 obtain ⟨a0,ha0⟩:∃a:Nat,(pm i).kd 0=a:=⟨((pm i).kd 0).toNat,by have:=(tr.kid i hi 0 Zo).1;omega⟩
 have l0:a0 < i:=by have:=(tr.kid i hi 0 Zo).2;omega
 have Y0:Hid (w0.cell? ⟨eb,eo+0,none⟩=some (.int .i64 a0)):=by have:=hec 0 Zo;rw[ha0] at this;exact this
 have A0:Hid ((pm i).kd 0=a0):=ha0
 obtain ⟨a1,ha1⟩:∃a:Nat,(pm i).kd 1=a:=⟨((pm i).kd 1).toNat,by have:=(tr.kid i hi 1 Zo).1;omega⟩
 have l1:a1 < i:=by have:=(tr.kid i hi 1 Zo).2;omega
 have Y1:Hid (w0.cell? ⟨eb,eo+1,none⟩=some (.int .i64 a1)):=by have:=hec 1 Zo;rw[ha1] at this;exact this
 have A1:Hid ((pm i).kd 1=a1):=ha1
 obtain ⟨a2,ha2⟩:∃a:Nat,(pm i).kd 2=a:=⟨((pm i).kd 2).toNat,by have:=(tr.kid i hi 2 Zo).1;omega⟩
 have l2:a2 < i:=by have:=(tr.kid i hi 2 Zo).2;omega
 have Y2:Hid (w0.cell? ⟨eb,eo+2,none⟩=some (.int .i64 a2)):=by have:=hec 2 Zo;rw[ha2] at this;exact this
 have A2:Hid ((pm i).kd 2=a2):=ha2
 have hsz:sz a0+sz a1+sz a2+1<=sz i:=by
  exact J167
 have HNK:Hid _:=hnk
 have hnm:Hid _:=(ha.2 i hi).1
 have hps:psum sz (pm i).kd 2+sz a2+1<=sz i:=by
  have e:=tr.szs i hi
  rw[hnk,psum,ha2] at e
  exact e
 rw[ha2,show ((a2:Int)).toNat=a2 from rfl] at hbl
 have HB:Hid _:=hbl
 have HKI:Hid (IntsAt w0 (some ⟨eb,eo,none⟩) 2 (pm i).kd):=fun _=>⟨eb,eo,rfl,fun q hq=>hec q Zo⟩
 have kc2:(2:Int)<=((pm i).kc:Int):=Zo
 have kc3:2<=(pm i).kc:=Zo
 rw[hnk] at c9 nk2
 clear hex hbl hec ha0 ha1 ha2 hnk heb hcap
 clear h hl hs hf tr ha hpc htv hk hv1
 go_enter Tryz.func40,Tryz.ntmps40
 go_wp2_with fail
 have SD:Hid _:=Sd.start HH.out HL.out HS.out (PB (pm i) (some ⟨eb,eo,none⟩) 3) #[.int .i64 8,.int .i64 (pm i).line,.int .i64 0,.int .i64 0,.float .f64 0,.string {data:= #[]},.slice none 0 0,.slice none 0 0]
 have zK:w.heap.size+2<=((w.alloc (Obj.cells (PB (pm i) (some ⟨eb,eo,none⟩) 3) 67)).alloc (Obj.cells #[.int .i64 8,.int .i64 (pm i).line,.int .i64 0,.int .i64 0,.float .f64 0,.string {data:= #[]},.slice none 0 0,.slice none 0 0] 97)).heap.size:=J269
 generalize (w.alloc (Obj.cells (PB (pm i) (some ⟨eb,eo,none⟩) 3) 67)).alloc (Obj.cells #[.int .i64 8,.int .i64 (pm i).line,.int .i64 0,.int .i64 0,.float .f64 0,.string {data:= #[]},.slice none 0 0,.slice none 0 0] 97)=wK at*
 clear zc b0 zb b1 c0 c1 c2 c3 c4 c5 c6 c7 c8 c9
 refine (exprs_ws SD.out.ws SD.out.len SD.out.at_ HF.out (some ⟨eb,eo,none⟩) 2 (pm i).kc (pm i).kd HKI.out Zo hlp.1 (fun q hq=>by have:=HT.out.kid i hi q (by have:=HNK.out;omega);have:=hlp.2;omega) Zo (fun q hq=>HE.out q hq)).mono ?_
 rintro e w5 ⟨oa,oc,rfl,own5,V5,R5,s5,h5,f5,a5,l5,m5,q5,e5,lr5⟩
 have SE:Hid _:=SD.out.step h5 f5 a5 l5 m5
 have LR5:Hid _:=(lr5.base zK).far (b:=w.heap.size+1) Zo 7 (.slice oa 2 oc)
 have Q5:Hid _:=q5
 have E5:Hid _:=e5
 clear h5 f5 a5 l5 m5 q5 e5 lr5
 have sg:=SE.out.setN 7 (.slice oa 2 oc)
 have sg:=sg.setN 0 (.int .i64 7)
 have LR6:Hid _:=LRow.far LR5.out (b:=w.heap.size+1) Zo 0 (.int .i64 7)
 simp only[List.setIfInBounds_toArray,List.set_cons_zero,List.set_cons_succ] at sg
 have SG:Hid _:=sg
 clear sg
 have n0:=Blk.at_ SE.out.nb 0 rfl
 have n1:=Blk.at_ SE.out.nb 1 rfl
 have n2:=Blk.at_ SE.out.nb 2 rfl
 have n3:=Blk.at_ SE.out.nb 3 rfl
 have n4:=Blk.at_ SE.out.nb 4 rfl
 have n5:=Blk.at_ SE.out.nb 5 rfl
 have n6:=Blk.at_ SE.out.nb 6 rfl
 have n7:=Blk.at_ SE.out.nb 7 rfl
 have nf:=Blk.free SE.out.nb
 have nz:=Blk.lt SE.out.nb
 have p0:=Blk.at_ SE.out.pb 0 rfl
 have p8:=Blk.at_ SE.out.pb 8 rfl
 have pz:=Blk.lt SE.out.pb
 have npn:w.heap.size≠w.heap.size+1:=Zo
 go_wp2_with fail
 clear n0 n1 n2 n3 n4 n5 n6 n7 nf nz p0 p8 pz
 generalize (w5.setCell ⟨w.heap.size+1,7,none⟩ (.slice oa 2 oc)).setCell ⟨w.heap.size+1,0,none⟩ (.int .i64 7)=wS at*
 refine (add_ws SG.out.ws Zo SG.out.len (ndM 23 1 0 {data:= #[]})).mono ?_
 rintro e w6 ⟨x6,hx6,rfl,hp⟩
 obtain ⟨own6,V6,R6,h6,f6⟩:=SG.out.post hp
 have SH:Hid _:=h6
 have LR7:Hid _:=LRow.fr LR6.out f6
 clear hp h6 f6
 obtain ⟨ol,r2a,r2b,r2c⟩:=LR7.out
 have RA:Hid _:=r2a
 have RB:Hid _:=r2b
 have RC:Hid _:=r2c
 have hxo:=r2a.row
 rw[r2b] at hxo
 clear r2a r2b r2c
 obtain ⟨i2,hi2,hy0,hy1,hy2⟩:=info_parts info_int
 have N:=Blk.new w6 3 #[.int .i64 x6]
 have zf:=SH.out.fr.size
 have zn:=Blk.lt SH.out.nb
 have n7:=Blk.at_ SH.out.nb 7 rfl
 have npn:w.heap.size≠w.heap.size+1:=Zo
 go_wp2_with (first|(at_builtin;refine wpList_app _ rfl (.tmp 253) (.tmp 255) 64 rfl (w.heap.size+2) 3 i2 _ 1 8 Tryz.underlying64 hi2 hy0 hy1 hy2 rfl Zb (.slice oa 2 oc) 2 ol.flatten rfl (World.ownsRow.alloc hxo _) ⟨w6.heap.size,0,none⟩ 1 1 [.int .i64 x6] rfl rfl (fun j u hj=>by rw[Go.WideShapes.add_plain,N.cell,Nat.zero_add];simpa using hj) J262 Zb Zm Zo Zj ?_;intro g10 cap10 w10 hown hgrow hwhere;obtain ⟨ap1,ap2⟩:=SH.out.app RA.out RB.out RC.out (Onw.alloc _ _) hown hgrow hwhere;have n72:w10.cell? ⟨w.heap.size+1,7,none⟩=some (.slice oa 2 oc):=(Blk.cell ap1.nb 7).trans rfl;have nf2:=Blk.free ap1.nb;have nz2:=Blk.lt ap1.nb;have AP:Hid _:=ap1;have APL:Hid _:=ap2;clear ap1 ap2 hown hgrow hwhere;have p8:w10.cell? ⟨w.heap.size,8,none⟩=some (.slice (pm i).na (pm i).nn (pm i).nc):=(Blk.cell AP.out.pb 8).trans rfl;have pz:=Blk.lt AP.out.pb))
 have LR8:Hid _:=LRow.far APL.out (b:=w.heap.size+1) Zo 7 (.slice (some ⟨g10,0,none⟩) 3 cap10)
 have si:=AP.out.setN 7 (.slice (some ⟨g10,0,none⟩) 3 cap10)
 simp only[List.setIfInBounds_toArray,List.set_cons_zero,List.set_cons_succ] at si
 have SI:Hid _:=si
 clear si n72 nf2 nz2 p8 pz RA RB RC hxo N zf zn n7 i2 hi2 hy0 hy1 hy2
 generalize w10.setCell ⟨w.heap.size+1,7,none⟩ (.slice (some ⟨g10,0,none⟩) 3 cap10)=wT at*
 refine (declare_ws SI.out.ws SI.out.at_.scope (l:=l) SI.out.len i (pm i).na (pm i).nn (pm i).nc (pm i).nm Zo hnm.out).mono ?_
 rintro e w7 ⟨oa2,oc2,vs,rfl,own7,V7,R7,h7,f7,sr7,lr7⟩
 have sj:=SI.out.decl h7 f7 sr7
 have SJ:Hid _:=sj
 have LR9:Hid _:=(LRow.fr LR8.out f7).far (b:=w.heap.size+1) Zo 6 (.slice oa2 (pm i).nn oc2)
 have sk:=sj.setN 6 (.slice oa2 (pm i).nn oc2)
 simp only[List.setIfInBounds_toArray,List.set_cons_zero,List.set_cons_succ] at sk
 have SK:Hid _:=sk
 clear h7 f7 sr7 lr7 sj sk
 have n0:=Blk.at_ SJ.out.nb 0 rfl
 have n1:=Blk.at_ SJ.out.nb 1 rfl
 have n2:=Blk.at_ SJ.out.nb 2 rfl
 have n3:=Blk.at_ SJ.out.nb 3 rfl
 have n4:=Blk.at_ SJ.out.nb 4 rfl
 have n5:=Blk.at_ SJ.out.nb 5 rfl
 have n6:=Blk.at_ SJ.out.nb 6 rfl
 have n7:=Blk.at_ SJ.out.nb 7 rfl
 have nf:=Blk.free SJ.out.nb
 have nz:=Blk.lt SJ.out.nb
 have p9:=Blk.at_ SJ.out.pb 9 rfl
 have pz:=Blk.lt SJ.out.pb
 have y2:w7.cell? ⟨eb,eo+2,none⟩=some (.int .i64 a2):=con SJ.out.ws.wk.ov Y2.out
 have zy2:=clt y2
 have npn:w.heap.size≠w.heap.size+1:=Zo
 have ebn:eb≠w.heap.size+1:=by have:=clt Y2.out;have:=SJ.out.base;omega
 go_wp2_with fail
 clear n0 n1 n2 n3 n4 n5 n6 n7 nf nz p9 pz y2 zy2 ebn
 generalize w7.setCell ⟨w.heap.size+1,6,none⟩ (.slice oa2 (pm i).nn oc2)=wL at*
 refine (loop_ws SK.out.ws SK.out.len SK.out.at_ (SFn.adds (SFn.of HF.out E5.out) (Adds.declare _ _ _ _ _ _)) (i:=a2) Zo Zo ⟨hlp.1,by have:=hlp.2;omega⟩ HB.out).mono ?_
 rintro e w8 ⟨x8,hx8,rfl,hp⟩
 obtain ⟨own8,V8,R8,s8,h8,⟨q8,e8⟩,f8⟩:=SK.out.postS hp
 have SL:Hid _:=h8
 have Q8:Hid _:=q8
 have E8:Hid _:=e8
 have LR10:Hid _:=LRow.fr LR9.out f8
 clear hp h8 q8 e8 f8
 obtain ⟨ol,r2a,r2b,r2c⟩:=LR10.out
 have RA:Hid _:=r2a
 have RB:Hid _:=r2b
 have RC:Hid _:=r2c
 have hxo:=r2a.row
 rw[r2b] at hxo
 clear r2a r2b r2c
 obtain ⟨i2,hi2,hy0,hy1,hy2⟩:=info_parts info_int
 have N:=Blk.new w8 3 #[.int .i64 x8]
 have zf:=SL.out.fr.size
 have zn:=Blk.lt SL.out.nb
 have n7:=Blk.at_ SL.out.nb 7 rfl
 go_upto_region 73 with (first|(at_builtin;refine wpList_app _ rfl (.tmp 273) (.tmp 275) 64 rfl (w.heap.size+2) 3 i2 _ 1 8 Tryz.underlying64 hi2 hy0 hy1 hy2 rfl Zb (.slice (some ⟨g10,0,none⟩) 3 cap10) 3 ol.flatten rfl (World.ownsRow.alloc hxo _) ⟨w8.heap.size,0,none⟩ 1 1 [.int .i64 x8] rfl rfl (fun j u hj=>by rw[Go.WideShapes.add_plain,N.cell,Nat.zero_add];simpa using hj) J262 Zb Zm Zo Zj ?_;intro g11 cap11 w11 hown hgrow hwhere;obtain ⟨ap1,ap2⟩:=SL.out.app RA.out RB.out RC.out (Onw.alloc _ _) hown hgrow hwhere;have n72:w11.cell? ⟨w.heap.size+1,7,none⟩=some (.slice (some ⟨g10,0,none⟩) 3 cap10):=(Blk.cell ap1.nb 7).trans rfl;have nf2:=Blk.free ap1.nb;have nz2:=Blk.lt ap1.nb;have AQ:Hid _:=ap1;have AQL:Hid _:=ap2;have sm:=ap1.setN 7 (.slice (some ⟨g11,0,none⟩) 4 cap11);simp only[List.setIfInBounds_toArray,List.set_cons_zero,List.set_cons_succ] at sm;have SM:Hid _:=sm;clear sm ap1 ap2 hown hgrow hwhere))
 clear n72 nf2 nz2 RA RB RC hxo N zf zn n7 i2 hi2 hy0 hy1 hy2
 generalize w11.setCell ⟨w.heap.size+1,7,none⟩ (.slice (some ⟨g11,0,none⟩) 4 cap11)=wM at*
 have ADM:Hid (Adds s s8 l):=((Adds.of E5.out).trans (Adds.declare s5 i (pm i).nm l vs (pm i).nn)).trans (Adds.of E8.out)
 have n0:=Blk.at_ SM.out.nb 0 rfl
 have n1:=Blk.at_ SM.out.nb 1 rfl
 have n2:=Blk.at_ SM.out.nb 2 rfl
 have n3:=Blk.at_ SM.out.nb 3 rfl
 have n4:=Blk.at_ SM.out.nb 4 rfl
 have n5:=Blk.at_ SM.out.nb 5 rfl
 have n6:=Blk.at_ SM.out.nb 6 rfl
 have n7:=Blk.at_ SM.out.nb 7 rfl
 have nf:=Blk.free SM.out.nb
 have nz:=Blk.lt SM.out.nb
 have hsl:=SM.out.ws.slice (j:=1) Zo Zo
 have hr1:Hid ((R8 1).length=s8.sc.length):=J281
 have hle:Hid (s.sc.length<=s8.sc.length):=J268
 have bw1:=Blk.at_ SM.out.ws.blk 1 rfl
 have bwf:=SM.out.ws.blk.free
 have bwz:=SM.out.ws.blk.lt
 have nwp:wp≠w.heap.size+1:=J296
 rcases hsl with ⟨hv,hl0⟩|⟨g,cap,hv,hnc,hgb⟩
 ·have hz:s.sc.length=0:=J263
  rw[hv] at bw1
  have CU:Hid _:=SM.out.cut (m:=0) hv (Nat.zero_le _)
  have HZ:Hid _:=hz
  clear hv hl0
  simp only[hz]
  clear hz
  go_wp2_with fail
  obtain ⟨V9,R9,h9⟩:=CU.out
  have S9:Hid _:=h9
  clear h9
  refine (add_ws S9.out.ws Zo S9.out.len ⟨⟨7,(pm i).line,0,0,0,{data:= #[]},(pm i).nn,fun _=>0,4,fun _=>0⟩,oa2,oc2,some ⟨g11,0,none⟩,cap11⟩).mono ?_
  rintro e w9 ⟨r,hr,rfl,hp⟩
  have FIN:Hid _:=S9.out.fin (r:=r) hp (B2:=B+4000*sz i) Zo (Q:=fun s'=>Rel (pdOf pm) FX l (lp l) (rs l) i s s'/\Adds s s' l) ⟨by have e:=HZ.out;have q:Rel (pdOf pm) FX l (lp l) (rs l) i s (s8.cut s.sc.length):=(by have:=relC.for_ (pd:=pdOf pm) (FX:=FX) (l:=l) (lo:=lp l) (re:=rs l) (i:=i) (s:=s) (s1:=s5) (s2:=s8) (vs:=vs) (Or.inl HKK.out) J267 (by show Rel _ _ _ _ _ ((pm i).kd ((pm i).nk-1)).toNat _ _;rw[HNK.out,A2.out];exact Q8.out);exact this);rw[e] at q;exact q,by have e:=HZ.out;have q:Adds s (s8.cut s.sc.length) l:=Adds.of (Adds.cut ADM.out);rw[e] at q;exact q⟩
  exact J22
 ·rw[hv] at bw1
  have m0:(0:Int)<=(s.sc.length:Int):=Zo
  have m1:(s.sc.length:Int)<=(cap:Int):=J263
  have CU:Hid _:=SM.out.cut (m:=s.sc.length) hv J300
  clear hv hnc
  go_wp2_with fail
  obtain ⟨V9,R9,h9⟩:=CU.out
  have S9:Hid _:=h9
  clear h9
  refine (add_ws S9.out.ws Zo S9.out.len ⟨⟨7,(pm i).line,0,0,0,{data:= #[]},(pm i).nn,fun _=>0,4,fun _=>0⟩,oa2,oc2,some ⟨g11,0,none⟩,cap11⟩).mono ?_
  rintro e w9 ⟨r,hr,rfl,hp⟩
  have FIN:Hid _:=S9.out.fin (r:=r) hp (B2:=B+4000*sz i) Zo (Q:=fun s'=>Rel (pdOf pm) FX l (lp l) (rs l) i s s'/\Adds s s' l) ⟨(by have:=relC.for_ (pd:=pdOf pm) (FX:=FX) (l:=l) (lo:=lp l) (re:=rs l) (i:=i) (s:=s) (s1:=s5) (s2:=s8) (vs:=vs) (Or.inl HKK.out) J267 (by show Rel _ _ _ _ _ ((pm i).kd ((pm i).nk-1)).toNat _ _;rw[HNK.out,A2.out];exact Q8.out);exact this),Adds.of (Adds.cut ADM.out)⟩
  exact J22
theorem stat_k9_4 (tr:Tr w0 tv np pm sz)(hi:i < np)(hk:(pm i).kind=9)(hnk:(pm i).nk=4)(hcap:(pm i).nk<=(pm i).kc)(hex:∀q,q < 3->ExprOk w0 wp tv (pdOf pm) FX sz ((pm i).kd q).toNat)(hbl:BlockOk w0 wp tv (pdOf pm) FX sz ((pm i).kd 3).toNat):StatOk w0 wp tv (pdOf pm) FX sz i:=by
 intro w own V R B lp rs l s h hl hs hf hB hll hlp
 obtain ⟨pa,pc,pb,po,sa,sc',htv,ha,hpa,hpc,hv1,⟨c0,c1,c2,c3,c4,c5,c6,c7,c8,c9⟩,b0,b1,zc,zb,i0,i1,szi,nk2,nn2⟩:=stat_pre tr hi h hs
 have ⟨HH,HL,HS,HF,HT,HA,HTV,HP,HKK,HV1⟩:=hid10 h hl hs hf tr ha htv hpc hk hv1
 have ⟨k1,k2,k3,k4,k5,k6,k15,k13,k16,k7,k8,k9,k10,k11,k12,k14⟩:=kindsAt hk
 have HE:Hid _:=hex
 obtain ⟨eb,eo,heb,hec⟩:=(ha.2 i hi).2 Zo
 rw[heb] at c9
 obtain ⟨a0,ha0⟩:∃a:Nat,(pm i).kd 0=a:=⟨((pm i).kd 0).toNat,by have:=(tr.kid i hi 0 Zo).1;omega⟩
 have l0:a0 < i:=by have:=(tr.kid i hi 0 Zo).2;omega
 have Y0:Hid (w0.cell? ⟨eb,eo+0,none⟩=some (.int .i64 a0)):=by have:=hec 0 Zo;rw[ha0] at this;exact this
 have A0:Hid ((pm i).kd 0=a0):=ha0
 obtain ⟨a1,ha1⟩:∃a:Nat,(pm i).kd 1=a:=⟨((pm i).kd 1).toNat,by have:=(tr.kid i hi 1 Zo).1;omega⟩
 have l1:a1 < i:=by have:=(tr.kid i hi 1 Zo).2;omega
 have Y1:Hid (w0.cell? ⟨eb,eo+1,none⟩=some (.int .i64 a1)):=by have:=hec 1 Zo;rw[ha1] at this;exact this
 have A1:Hid ((pm i).kd 1=a1):=ha1
 obtain ⟨a2,ha2⟩:∃a:Nat,(pm i).kd 2=a:=⟨((pm i).kd 2).toNat,by have:=(tr.kid i hi 2 Zo).1;omega⟩
 have l2:a2 < i:=by have:=(tr.kid i hi 2 Zo).2;omega
 have Y2:Hid (w0.cell? ⟨eb,eo+2,none⟩=some (.int .i64 a2)):=by have:=hec 2 Zo;rw[ha2] at this;exact this
 have A2:Hid ((pm i).kd 2=a2):=ha2
 obtain ⟨a3,ha3⟩:∃a:Nat,(pm i).kd 3=a:=⟨((pm i).kd 3).toNat,by have:=(tr.kid i hi 3 Zo).1;omega⟩
 have l3:a3 < i:=by have:=(tr.kid i hi 3 Zo).2;omega
 have Y3:Hid (w0.cell? ⟨eb,eo+3,none⟩=some (.int .i64 a3)):=by have:=hec 3 Zo;rw[ha3] at this;exact this
 have A3:Hid ((pm i).kd 3=a3):=ha3
 have hsz:sz a0+sz a1+sz a2+sz a3+1<=sz i:=by
  have e:=tr.szs i hi
  rw[hnk] at e
  simp only[psum] at e
  rw[ha0,ha1,ha2,ha3] at e
  simp at e
  omega
 have HNK:Hid _:=hnk
 have hnm:Hid _:=(ha.2 i hi).1
 have hps:psum sz (pm i).kd 3+sz a3+1<=sz i:=by
  have e:=tr.szs i hi
  rw[hnk,psum,ha3] at e
  exact e
 rw[ha3,show ((a3:Int)).toNat=a3 from rfl] at hbl
 have HB:Hid _:=hbl
 have HKI:Hid (IntsAt w0 (some ⟨eb,eo,none⟩) 3 (pm i).kd):=fun _=>⟨eb,eo,rfl,fun q hq=>hec q Zo⟩
 have kc2:(3:Int)<=((pm i).kc:Int):=Zo
 have kc3:3<=(pm i).kc:=Zo
 rw[hnk] at c9 nk2
 clear hex hbl hec ha0 ha1 ha2 ha3 hnk heb hcap
 clear h hl hs hf tr ha hpc htv hk hv1
 go_enter Tryz.func40,Tryz.ntmps40
 go_wp2_with fail
 have SD:Hid _:=Sd.start HH.out HL.out HS.out (PB (pm i) (some ⟨eb,eo,none⟩) 4) #[.int .i64 8,.int .i64 (pm i).line,.int .i64 0,.int .i64 0,.float .f64 0,.string {data:= #[]},.slice none 0 0,.slice none 0 0]
 have zK:w.heap.size+2<=((w.alloc (Obj.cells (PB (pm i) (some ⟨eb,eo,none⟩) 4) 67)).alloc (Obj.cells #[.int .i64 8,.int .i64 (pm i).line,.int .i64 0,.int .i64 0,.float .f64 0,.string {data:= #[]},.slice none 0 0,.slice none 0 0] 97)).heap.size:=J269
 generalize (w.alloc (Obj.cells (PB (pm i) (some ⟨eb,eo,none⟩) 4) 67)).alloc (Obj.cells #[.int .i64 8,.int .i64 (pm i).line,.int .i64 0,.int .i64 0,.float .f64 0,.string {data:= #[]},.slice none 0 0,.slice none 0 0] 97)=wK at*
 clear zc b0 zb b1 c0 c1 c2 c3 c4 c5 c6 c7 c8 c9
 refine (exprs_ws SD.out.ws SD.out.len SD.out.at_ HF.out (some ⟨eb,eo,none⟩) 3 (pm i).kc (pm i).kd HKI.out Zo hlp.1 (fun q hq=>by have:=HT.out.kid i hi q (by have:=HNK.out;omega);have:=hlp.2;omega) Zo (fun q hq=>HE.out q hq)).mono ?_
 rintro e w5 ⟨oa,oc,rfl,own5,V5,R5,s5,h5,f5,a5,l5,m5,q5,e5,lr5⟩
 have SE:Hid _:=SD.out.step h5 f5 a5 l5 m5
 have LR5:Hid _:=(lr5.base zK).far (b:=w.heap.size+1) Zo 7 (.slice oa 3 oc)
 have Q5:Hid _:=q5
 have E5:Hid _:=e5
 clear h5 f5 a5 l5 m5 q5 e5 lr5
 have sg:=SE.out.setN 7 (.slice oa 3 oc)
 have sg:=sg.setN 0 (.int .i64 7)
 have LR6:Hid _:=LRow.far LR5.out (b:=w.heap.size+1) Zo 0 (.int .i64 7)
 simp only[List.setIfInBounds_toArray,List.set_cons_zero,List.set_cons_succ] at sg
 have SG:Hid _:=sg
 clear sg
 have n0:=Blk.at_ SE.out.nb 0 rfl
 have n1:=Blk.at_ SE.out.nb 1 rfl
 have n2:=Blk.at_ SE.out.nb 2 rfl
 have n3:=Blk.at_ SE.out.nb 3 rfl
 have n4:=Blk.at_ SE.out.nb 4 rfl
 have n5:=Blk.at_ SE.out.nb 5 rfl
 have n6:=Blk.at_ SE.out.nb 6 rfl
 have n7:=Blk.at_ SE.out.nb 7 rfl
 have nf:=Blk.free SE.out.nb
 have nz:=Blk.lt SE.out.nb
 have p0:=Blk.at_ SE.out.pb 0 rfl
 have p8:=Blk.at_ SE.out.pb 8 rfl
 have pz:=Blk.lt SE.out.pb
 have npn:w.heap.size≠w.heap.size+1:=Zo
 go_wp2_with fail
 clear n0 n1 n2 n3 n4 n5 n6 n7 nf nz p0 p8 pz
 generalize (w5.setCell ⟨w.heap.size+1,7,none⟩ (.slice oa 3 oc)).setCell ⟨w.heap.size+1,0,none⟩ (.int .i64 7)=wS at*
 refine (declare_ws SG.out.ws SG.out.at_.scope (l:=l) SG.out.len i (pm i).na (pm i).nn (pm i).nc (pm i).nm Zo hnm.out).mono ?_
 rintro e w7 ⟨oa2,oc2,vs,rfl,own7,V7,R7,h7,f7,sr7,lr7⟩
 have sj:=SG.out.decl h7 f7 sr7
 have SJ:Hid _:=sj
 have LR9:Hid _:=(LRow.fr LR6.out f7).far (b:=w.heap.size+1) Zo 6 (.slice oa2 (pm i).nn oc2)
 have sk:=sj.setN 6 (.slice oa2 (pm i).nn oc2)
 simp only[List.setIfInBounds_toArray,List.set_cons_zero,List.set_cons_succ] at sk
 have SK:Hid _:=sk
 clear h7 f7 sr7 lr7 sj sk
 have n0:=Blk.at_ SJ.out.nb 0 rfl
 have n1:=Blk.at_ SJ.out.nb 1 rfl
 have n2:=Blk.at_ SJ.out.nb 2 rfl
 have n3:=Blk.at_ SJ.out.nb 3 rfl
 have n4:=Blk.at_ SJ.out.nb 4 rfl
 have n5:=Blk.at_ SJ.out.nb 5 rfl
 have n6:=Blk.at_ SJ.out.nb 6 rfl
 have n7:=Blk.at_ SJ.out.nb 7 rfl
 have nf:=Blk.free SJ.out.nb
 have nz:=Blk.lt SJ.out.nb
 have p9:=Blk.at_ SJ.out.pb 9 rfl
 have pz:=Blk.lt SJ.out.pb
 have y3:w7.cell? ⟨eb,eo+3,none⟩=some (.int .i64 a3):=con SJ.out.ws.wk.ov Y3.out
 have zy3:=clt y3
 have npn:w.heap.size≠w.heap.size+1:=Zo
 have ebn:eb≠w.heap.size+1:=by have:=clt Y3.out;have:=SJ.out.base;omega
 go_wp2_with fail
 clear n0 n1 n2 n3 n4 n5 n6 n7 nf nz p9 pz y3 zy3 ebn
 generalize w7.setCell ⟨w.heap.size+1,6,none⟩ (.slice oa2 (pm i).nn oc2)=wL at*
 refine (loop_ws SK.out.ws SK.out.len SK.out.at_ (SFn.adds (SFn.of HF.out E5.out) (Adds.declare _ _ _ _ _ _)) (i:=a3) Zo Zo ⟨hlp.1,by have:=hlp.2;omega⟩ HB.out).mono ?_
 rintro e w8 ⟨x8,hx8,rfl,hp⟩
 obtain ⟨own8,V8,R8,s8,h8,⟨q8,e8⟩,f8⟩:=SK.out.postS hp
 have SL:Hid _:=h8
 have Q8:Hid _:=q8
 have E8:Hid _:=e8
 have LR10:Hid _:=LRow.fr LR9.out f8
 clear hp h8 q8 e8 f8
 obtain ⟨ol,r2a,r2b,r2c⟩:=LR10.out
 have RA:Hid _:=r2a
 have RB:Hid _:=r2b
 have RC:Hid _:=r2c
 have hxo:=r2a.row
 rw[r2b] at hxo
 clear r2a r2b r2c
 obtain ⟨i2,hi2,hy0,hy1,hy2⟩:=info_parts info_int
 have N:=Blk.new w8 3 #[.int .i64 x8]
 have zf:=SL.out.fr.size
 have zn:=Blk.lt SL.out.nb
 have n7:=Blk.at_ SL.out.nb 7 rfl
 go_upto_region 73 with (first|(at_builtin;refine wpList_app _ rfl (.tmp 273) (.tmp 275) 64 rfl (w.heap.size+2) 3 i2 _ 1 8 Tryz.underlying64 hi2 hy0 hy1 hy2 rfl Zb (.slice oa 3 oc) 3 ol.flatten rfl (World.ownsRow.alloc hxo _) ⟨w8.heap.size,0,none⟩ 1 1 [.int .i64 x8] rfl rfl (fun j u hj=>by rw[Go.WideShapes.add_plain,N.cell,Nat.zero_add];simpa using hj) J262 Zb Zm Zo Zj ?_;intro g11 cap11 w11 hown hgrow hwhere;obtain ⟨ap1,ap2⟩:=SL.out.app RA.out RB.out RC.out (Onw.alloc _ _) hown hgrow hwhere;have n72:w11.cell? ⟨w.heap.size+1,7,none⟩=some (.slice oa 3 oc):=(Blk.cell ap1.nb 7).trans rfl;have nf2:=Blk.free ap1.nb;have nz2:=Blk.lt ap1.nb;have AQ:Hid _:=ap1;have AQL:Hid _:=ap2;have sm:=ap1.setN 7 (.slice (some ⟨g11,0,none⟩) 4 cap11);simp only[List.setIfInBounds_toArray,List.set_cons_zero,List.set_cons_succ] at sm;have SM:Hid _:=sm;clear sm ap1 ap2 hown hgrow hwhere))
 clear n72 nf2 nz2 RA RB RC hxo N zf zn n7 i2 hi2 hy0 hy1 hy2
 generalize w11.setCell ⟨w.heap.size+1,7,none⟩ (.slice (some ⟨g11,0,none⟩) 4 cap11)=wM at*
 have ADM:Hid (Adds s s8 l):=((Adds.of E5.out).trans (Adds.declare s5 i (pm i).nm l vs (pm i).nn)).trans (Adds.of E8.out)
 have n0:=Blk.at_ SM.out.nb 0 rfl
 have n1:=Blk.at_ SM.out.nb 1 rfl
 have n2:=Blk.at_ SM.out.nb 2 rfl
 have n3:=Blk.at_ SM.out.nb 3 rfl
 have n4:=Blk.at_ SM.out.nb 4 rfl
 have n5:=Blk.at_ SM.out.nb 5 rfl
 have n6:=Blk.at_ SM.out.nb 6 rfl
 have n7:=Blk.at_ SM.out.nb 7 rfl
 have nf:=Blk.free SM.out.nb
 have nz:=Blk.lt SM.out.nb
 have hsl:=SM.out.ws.slice (j:=1) Zo Zo
 have hr1:Hid ((R8 1).length=s8.sc.length):=J281
 have hle:Hid (s.sc.length<=s8.sc.length):=J268
 have bw1:=Blk.at_ SM.out.ws.blk 1 rfl
 have bwf:=SM.out.ws.blk.free
 have bwz:=SM.out.ws.blk.lt
 have nwp:wp≠w.heap.size+1:=J296
 rcases hsl with ⟨hv,hl0⟩|⟨g,cap,hv,hnc,hgb⟩
 ·have hz:s.sc.length=0:=J263
  rw[hv] at bw1
  have CU:Hid _:=SM.out.cut (m:=0) hv (Nat.zero_le _)
  have HZ:Hid _:=hz
  clear hv hl0
  simp only[hz]
  clear hz
  go_wp2_with fail
  obtain ⟨V9,R9,h9⟩:=CU.out
  have S9:Hid _:=h9
  clear h9
  refine (add_ws S9.out.ws Zo S9.out.len ⟨⟨7,(pm i).line,0,0,0,{data:= #[]},(pm i).nn,fun _=>0,4,fun _=>0⟩,oa2,oc2,some ⟨g11,0,none⟩,cap11⟩).mono ?_
  rintro e w9 ⟨r,hr,rfl,hp⟩
  have FIN:Hid _:=S9.out.fin (r:=r) hp (B2:=B+4000*sz i) Zo (Q:=fun s'=>Rel (pdOf pm) FX l (lp l) (rs l) i s s'/\Adds s s' l) ⟨by have e:=HZ.out;have q:Rel (pdOf pm) FX l (lp l) (rs l) i s (s8.cut s.sc.length):=(by have:=relC.for_ (pd:=pdOf pm) (FX:=FX) (l:=l) (lo:=lp l) (re:=rs l) (i:=i) (s:=s) (s1:=s5) (s2:=s8) (vs:=vs) (Or.inl HKK.out) J267 (by show Rel _ _ _ _ _ ((pm i).kd ((pm i).nk-1)).toNat _ _;rw[HNK.out,A3.out];exact Q8.out);exact this);rw[e] at q;exact q,by have e:=HZ.out;have q:Adds s (s8.cut s.sc.length) l:=Adds.of (Adds.cut ADM.out);rw[e] at q;exact q⟩
  exact J22
 ·rw[hv] at bw1
  have m0:(0:Int)<=(s.sc.length:Int):=Zo
  have m1:(s.sc.length:Int)<=(cap:Int):=J263
  have CU:Hid _:=SM.out.cut (m:=s.sc.length) hv J300
  clear hv hnc
  go_wp2_with fail
  obtain ⟨V9,R9,h9⟩:=CU.out
  have S9:Hid _:=h9
  clear h9
  refine (add_ws S9.out.ws Zo S9.out.len ⟨⟨7,(pm i).line,0,0,0,{data:= #[]},(pm i).nn,fun _=>0,4,fun _=>0⟩,oa2,oc2,some ⟨g11,0,none⟩,cap11⟩).mono ?_
  rintro e w9 ⟨r,hr,rfl,hp⟩
  have FIN:Hid _:=S9.out.fin (r:=r) hp (B2:=B+4000*sz i) Zo (Q:=fun s'=>Rel (pdOf pm) FX l (lp l) (rs l) i s s'/\Adds s s' l) ⟨(by have:=relC.for_ (pd:=pdOf pm) (FX:=FX) (l:=l) (lo:=lp l) (re:=rs l) (i:=i) (s:=s) (s1:=s5) (s2:=s8) (vs:=vs) (Or.inl HKK.out) J267 (by show Rel _ _ _ _ _ ((pm i).kd ((pm i).nk-1)).toNat _ _;rw[HNK.out,A3.out];exact Q8.out);exact this),Adds.of (Adds.cut ADM.out)⟩
  exact J22
end Go.Proofs.YtlibofjbhhdjdaaGreat
