import Derived.Test.YtlibofjbhhdjdaaGreatQ
import Derived.Test.YtlibofjbhhdjdaaGreatP13
set_option linter.unusedSimpArgs false
set_option maxRecDepth 100000
set_option maxHeartbeats 16000000
namespace Go.Proofs.YtlibofjbhhdjdaaGreat
open Go.RowKit
attribute [local go_sem] rsf
theorem stat_k14_1 {w0:World}{wp:Nat}{tv:Value}{FX:List SNm->Nat->CV->Prop}{sz:Nat->Nat}{np:Nat}{pm:Nat->PM}(tr:Tr w0 tv np pm sz){i:Nat}(hi:i < np)(hk:(pm i).kind=14)(hnk:(pm i).nk=2)(hnn:(pm i).nn=1)(hb0:BlockOk w0 wp tv (pdOf pm) FX sz ((pm i).kd 0).toNat)(hb1:BlockOk w0 wp tv (pdOf pm) FX sz ((pm i).kd 1).toNat):StatOk w0 wp tv (pdOf pm) FX sz i:=by
 intro w own V R B lp rs l s h hl hs hf hB hll hlp
 obtain ⟨pa,pc,pb,po,sa,sc',htv,ha,hpa,hpc,hv1,⟨c0,c1,c2,c3,c4,c5,c6,c7,c8,c9⟩,b0,b1,zc,zb,i0,i1,szi,nk2,nn2⟩:=stat_pre tr hi h hs
 have ⟨HH,HL,HS,HF,HT,HA,HTV,HP,HKK,HV1⟩:=hid10 h hl hs hf tr ha htv hpc hk hv1
 have ⟨k1,k2,k3,k4,k5,k6,k15,k13,k16,k7,k8,k9,k10,k11,k12,k14⟩:=kindsAt hk
 obtain ⟨eb,eo,heb,hec⟩:=(ha.2 i hi).2 Zo
 rw[heb] at c9
 obtain ⟨a0,ha0⟩:∃a:Nat,(pm i).kd 0=a:=⟨((pm i).kd 0).toNat,by have:=(tr.kid i hi 0 Zo).1;omega⟩
 have l0:a0 < i:=by have:=(tr.kid i hi 0 Zo).2;omega
 have Y0:Hid (w0.cell? ⟨eb,eo+0,none⟩=some (.int .i64 a0)):=by have:=hec 0 Zo;rw[ha0] at this;exact this
 have A0:Hid ((pm i).kd 0=a0):=ha0
 obtain ⟨a1,ha1⟩:∃a:Nat,(pm i).kd 1=a:=⟨((pm i).kd 1).toNat,by have:=(tr.kid i hi 1 Zo).1;omega⟩
 have l1:a1 < i:=by have:=(tr.kid i hi 1 Zo).2;omega
 have Y1:Hid (w0.cell? ⟨eb,eo+1,none⟩=some (.int .i64 a1)):=by have:=hec 1 Zo;rw[ha1] at this;exact this
 have A1:Hid ((pm i).kd 1=a1):=ha1
 have hsz:sz a0+sz a1+1<=sz i:=by
  exact J85
 have HNK:Hid _:=hnk
 rw[ha0,show ((a0:Int)).toNat=a0 from rfl] at hb0
 rw[ha1,show ((a1:Int)).toNat=a1 from rfl] at hb1
 have HB0:Hid _:=hb0
 have HB1:Hid _:=hb1
 have hnm:Hid (StrsAt w0 (pm i).na 1 (pm i).nm):=by have:=(ha.2 i hi).1;rw[hnn] at this;exact this
 have y0:w.cell? ⟨eb,eo,none⟩=some (.int .i64 a0):=con h.wk.ov Y0.out
 have zy0:=clt y0
 have HNN:Hid _:=hnn
 rw[hnk] at c9 nk2
 rw[hnn] at c8 nn2
 clear hb0 hb1 hec ha0 ha1 hnk hnn heb
 clear h hl hs hf tr ha hpc htv hk hv1
 go_enter Tryz.func40,Tryz.ntmps40
 go_wp2_with fail
 have SD:Hid _:=Sd.start HH.out HL.out HS.out #[.int .i64 (pm i).kind,.int .i64 (pm i).frm,.int .i64 (pm i).tto,.int .i64 (pm i).line,.int .i64 (pm i).op,.int .i64 (pm i).num,.float .f64 (pm i).flt,.string (pm i).text,.slice (pm i).na 1 (pm i).nc,.slice (some ⟨eb,eo,none⟩) 2 (pm i).kc] #[.int .i64 12,.int .i64 (pm i).line,.int .i64 0,.int .i64 0,.float .f64 0,.string {data:= #[]},.slice none 0 0,.slice none 0 0]
 generalize (w.alloc (Obj.cells #[.int .i64 (pm i).kind,.int .i64 (pm i).frm,.int .i64 (pm i).tto,.int .i64 (pm i).line,.int .i64 (pm i).op,.int .i64 (pm i).num,.float .f64 (pm i).flt,.string (pm i).text,.slice (pm i).na 1 (pm i).nc,.slice (some ⟨eb,eo,none⟩) 2 (pm i).kc] 67)).alloc (Obj.cells #[.int .i64 12,.int .i64 (pm i).line,.int .i64 0,.int .i64 0,.float .f64 0,.string {data:= #[]},.slice none 0 0,.slice none 0 0] 97)=wK at*
 clear zc b0 zb b1 c0 c1 c2 c3 c4 c5 c6 c7 c8 c9
 clear y0 zy0
 refine (HB0.out _ own V R B lp rs l s SD.out.ws SD.out.len SD.out.at_ HF.out Zo Zo ⟨hlp.1,by have:=hlp.2;omega⟩).mono ?_
 rintro e w5 ⟨x,hx,rfl,hp⟩
 obtain ⟨own5,V5,R5,s5,h5,⟨q5,e5⟩,_⟩:=SD.out.postS hp
 have SE:Hid _:=h5
 have Q5:Hid _:=q5
 have E5:Hid _:=e5
 clear hp h5 q5 e5
 have p8:=Blk.at_ SE.out.pb 8 rfl
 have pz:=Blk.lt SE.out.pb
 go_wp2_with fail
 clear p8 pz
 have z5:w.heap.size+2<=w5.heap.size:=by have:=Blk.lt SE.out.nb;omega
 refine (declare_ws SE.out.ws SE.out.at_.scope (l:=l) SE.out.len i (pm i).na 1 (pm i).nc (pm i).nm Zo hnm.out).mono ?_
 rintro e w6 ⟨oa,oc,vs,rfl,own6,V6,R6,h6,f6,sr6,lr6⟩
 have SI:Hid _:=SE.out.decl h6 f6 sr6
 have sj:=SI.out.setN 6 (.slice oa 1 oc)
 simp only[List.setIfInBounds_toArray,List.set_cons_zero,List.set_cons_succ] at sj
 have SJ:Hid _:=sj
 have LJ:Hid _:=LRow.far (lr6.base z5) (b:=w.heap.size+1) Zo 6 (.slice oa 1 oc)
 clear h6 f6 sr6 lr6 sj
 have n0:=Blk.at_ SI.out.nb 0 rfl
 have n1:=Blk.at_ SI.out.nb 1 rfl
 have n2:=Blk.at_ SI.out.nb 2 rfl
 have n3:=Blk.at_ SI.out.nb 3 rfl
 have n4:=Blk.at_ SI.out.nb 4 rfl
 have n5:=Blk.at_ SI.out.nb 5 rfl
 have n6:=Blk.at_ SI.out.nb 6 rfl
 have n7:=Blk.at_ SI.out.nb 7 rfl
 have nf:=Blk.free SI.out.nb
 have nz:=Blk.lt SI.out.nb
 have p8:=Blk.at_ SI.out.pb 8 rfl
 have p9:=Blk.at_ SI.out.pb 9 rfl
 have pz:=Blk.lt SI.out.pb
 have y1:w6.cell? ⟨eb,eo+1,none⟩=some (.int .i64 a1):=con SI.out.ws.wk.ov Y1.out
 have zy1:=clt y1
 have npn:w.heap.size≠w.heap.size+1:=Zo
 have ebn:eb≠w.heap.size+1:=by have:=clt Y1.out;have:=SI.out.base;omega
 go_upto_region 85 with (fail)
 clear n0 n1 n2 n3 n4 n5 n6 n7 nf nz p8 p9 pz y1 zy1
 generalize w6.setCell ⟨w.heap.size+1,6,none⟩ (.slice oa 1 oc)=wS at*
 have p8:=Blk.at_ SJ.out.pb 8 rfl
 have pz:=Blk.lt SJ.out.pb
 go_upto_if 322 with (fail)
 go_cut [] (fun wd=>∃(g10 cap10:Nat) (own9:Nat->Nat) (V9:Nat->Value) (R9:Nat->List (List Value)),Sd w0 wp tv w own R l #[.int .i64 (pm i).kind,.int .i64 (pm i).frm,.int .i64 (pm i).tto,.int .i64 (pm i).line,.int .i64 (pm i).op,.int .i64 (pm i).num,.float .f64 (pm i).flt,.string (pm i).text,.slice (pm i).na 1 (pm i).nc,.slice (some ⟨eb,eo,none⟩) 2 (pm i).kc] ((B+4000*sz a0+4*1)+1) lp rs #[.int .i64 12,.int .i64 (pm i).line,.int .i64 0,.int .i64 0,.float .f64 0,.string {data:= #[]},.slice (some ⟨g10,0,none⟩) 2 cap10,.slice none 0 0] wd own9 V9 R9 (s5.declare i (pm i).nm l vs 1))
 case first=>
  obtain ⟨g,cap,hv2,hcall⟩:=fn_wk SJ.out.ws.wk l SJ.out.len Zo
  go_wp2_with fail
  refine hcall.mono ?_
  rintro e wa ⟨rfl,o6⟩
  have SA:Hid _:=SJ.out.onw o6
  have LA:Hid _:=LRow.onw LJ.out o6
  obtain ⟨g',cap',cells,hv,hnc,ho,hkk,hcl,hL,hcc,hfz⟩:=SA.out.ws.level (k:=l) (by rw[SA.out.len];omega)
  have hg':g'=g:=Ze
  subst hg'
  obtain ⟨num,nam,ln,pr,vv,uv,nv,vls,us,ns,hcells,rv,ru,rn,hus,lv,lu,lnn⟩:=hL
  have c5:wa.cell? ⟨g',l*9+1+4,none⟩=some vv:=by rw[show l*9+1+4=l*9+5 by omega,hcc 5 Zo,hcells];rfl
  have f5:=hfz (l*9+1+4)
  have hne:vv.ownBlock≠some g':=fun e=>by have:=rv.mine g' e;omega
  have zg:=clt c5
  have hx':=rv.row
  have hlo:=SA.out.ws.wk.ov.size
  have gn:g'≠w.heap.size+1:=fun e=>by have h1:=SA.out.on;rw[<-e] at h1;omega
  have ng:w.heap.size+1≠g':=Ne.symm gn
  have HK:Hid _:=hkk
  have HV:Hid _:=hv
  have GT:Hid _:=hv
  have HC:Hid _:=hcells
  have HRV:Hid _:=rv
  have HRU:Hid _:=ru
  have HRN:Hid _:=rn
  have HUS:Hid _:=hus
  clear hcall hv2 o6 hkk hv hcells hcc hfz rv ru rn hus hnc hcl ho p8 pz
  obtain ⟨i0',hi0,hz0,hz1,hz2⟩:=info_parts info_string
  have N:=Blk.new wa 9 #[.string {data:= #[95]}]
  go_upto_region 88 with (first|(at_builtin;refine wpList_app _ rfl (.tmp 330) (.tmp 331) 63 rfl w0.heap.size 9 i0' _ 1 16 Tryz.underlying63 hi0 hz0 hz1 hz2 rfl Zb vv vls.length vls.flatten rfl (hx'.alloc _) ⟨wa.heap.size,0,none⟩ 1 1 [.string {data:= #[95]}] rfl rfl (fun j u hj=>by rw[Go.WideShapes.add_plain,N.cell,Nat.zero_add];simpa using hj) J262 Zb Zm Zo Zj ?_;intro g2 cap2 w2 hown hgrow hwhere;have q5:=hgrow.cell (con (Onw.alloc wa _) c5) (fun e=>hne e.symm);have f52:w2.frozen? ⟨g',l*9+1+4,none⟩=false:=(World.frozen?_of_block (a:=⟨g',l*9+1+4,none⟩) ((hgrow.block g' Zj (fun e=>hne e.symm)).trans (heap_alloc_old wa _ (show g' < wa.heap.size from zg)))).trans f5))
  have hk2:=HK.out
  rw[HC.out] at hk2
  obtain ⟨R2,h2,fr2,sr2⟩:=SA.out.ws.pushV (k:=l) (x:= [.string {data:= #[95]}]) hk2 HV.out HRV.out HRU.out HRN.out HUS.out lv lu lnn rfl (Onw.alloc _ _) hown hgrow hwhere
  have SB:Hid _:=SA.out.same h2 fr2 sr2
  have LB:Hid _:=LRow.fr LA.out fr2
  have v5:(w2.setCell ⟨g',l*9+1+4,none⟩ (.slice (some ⟨g2,0,none⟩) (vls.length+1:Nat) cap2)).cell? ⟨g',l*9+1+4,none⟩=some (.slice (some ⟨g2,0,none⟩) (vls.length+1:Nat) cap2):=by simp[World.cell?_setCell_same,q5]
  clear h2 fr2 sr2 hk2 hown hgrow hwhere q5 f52 N c5 f5 hx' zg hne HK HV HC HRV HRU HRN HUS
  generalize w2.setCell ⟨g',l*9+1+4,none⟩ (.slice (some ⟨g2,0,none⟩) (vls.length+1:Nat) cap2)=wB at*
  generalize vls.length=vq at*
  have vq1:vq<=16777216:=Zo
  have zg:=clt v5
  have n6:=Blk.at_ SB.out.nb 6 rfl
  have nz:=Blk.lt SB.out.nb
  obtain ⟨i2,hi2,hy0,hy1,hy2⟩:=info_parts info_int
  obtain ⟨ol,r2a,r2b,r2c⟩:=LB.out
  have RA:Hid _:=r2a
  have RB:Hid _:=r2b
  have RC:Hid _:=r2c
  have hxo:=r2a.row
  rw[r2b] at hxo
  have hneG:(Value.slice oa 1 oc).ownBlock≠some g':=fun e=>by have h1:=r2a.mine g' e;have h2:=(SB.out.ws.wk.rows 2 Zo Zo).mine g' (by rw[GT.out];rfl);omega
  clear r2a r2b r2c
  refine wp_region_held_drew (S:=(fun w'=>w'.cell? ⟨g',l*9+1+4,none⟩=some (.slice (some ⟨g2,0,none⟩) (vq+1:Nat) cap2))) (by kernel_rfl) J292 (fun hHeld=>?_)
  refine tk 0 ?_
  refine tk 2 ?_
  refine tk 3 ?_
  refine tk 4 ?_
  refine tk 5 ?_
  refine tk 6 ?_
  refine tk 7 ?_
  refine tk 8 ?_
  simp only[wrap_nat' vq1]
  have N:=Blk.new wB.drew 3 #[.int .i64 vq]
  refine rd [1,9] ?_
  refine AllReadyH.cons rfl (fun K hK=>?_) ?_
  ·simp only[gA,gB,gC]
   go_simp
   refine hK.out _ _ J292 (fun hHeld=>?_)
   clear hK K
   try simp only[gA,gB,gC,Act.put,gD,gE,gF]
   refine rd [9] ?_
   exact J36
  refine AllReadyH.cons rfl (fun K hK=>?_) ?_
  ·simp only[gA,gB,gC]
   go_simp
   refine hK.out _ _ J292 (fun hHeld=>?_)
   clear hK K
   try simp only[gA,gB,gC,Act.put,gD,gE,gF]
   refine rd [1] ?_
   exact J36
  exact AllReadyH.nil
 case rest=>
  obtain ⟨g10,cap10,own9,V9,R9,h9⟩:=hcut
  have S9:Hid _:=h9
  clear h9 p8 pz
  have p9:=Blk.at_ S9.out.pb 9 rfl
  have pz:=Blk.lt S9.out.pb
  have y1:wc.cell? ⟨eb,eo+1,none⟩=some (.int .i64 a1):=con S9.out.ws.wk.ov Y1.out
  have zy1:=clt y1
  go_wp2_with fail
  clear p9 pz y1 zy1
  refine (HB1.out _ own9 V9 R9 _ lp rs l _ S9.out.ws S9.out.len S9.out.at_ (SFn.adds (SFn.of HF.out E5.out) (Adds.declare _ _ _ _ _ _)) Zo Zo ⟨hlp.1,by have:=hlp.2;omega⟩).mono ?_
  rintro e w7 ⟨y,hy,rfl,hp⟩
  obtain ⟨own7,V7,R7,s7,h7,⟨q7,e7⟩,_⟩:=S9.out.postS hp
  have SK:Hid _:=h7
  have Q7:Hid _:=q7
  have E7:Hid _:=e7
  have sm:=h7.setN 7 (.slice (some ⟨w7.heap.size,0,none⟩) 2 2)
  simp only[List.setIfInBounds_toArray,List.set_cons_zero,List.set_cons_succ] at sm
  have SM:Hid _:=sm.onw (Onw.alloc _ (.cells #[.int .i64 x,.int .i64 y] 3))
  clear hp h7 q7 e7 sm
  have n0:=Blk.at_ SK.out.nb 0 rfl
  have n1:=Blk.at_ SK.out.nb 1 rfl
  have n2:=Blk.at_ SK.out.nb 2 rfl
  have n3:=Blk.at_ SK.out.nb 3 rfl
  have n4:=Blk.at_ SK.out.nb 4 rfl
  have n5:=Blk.at_ SK.out.nb 5 rfl
  have n6:=Blk.at_ SK.out.nb 6 rfl
  have n7:=Blk.at_ SK.out.nb 7 rfl
  have nf:=Blk.free SK.out.nb
  have nz:=Blk.lt SK.out.nb
  go_upto_region 91 with (fail)
  clear n0 n1 n2 n3 n4 n5 n6 n7 nf nz
  generalize ((w7.setCell ⟨w.heap.size+1,7,none⟩ (.slice (some ⟨w7.heap.size,0,none⟩) 2 2)).alloc (Obj.cells #[.int .i64 x,.int .i64 y] 3))=wM at*
  generalize w7.heap.size=k7 at*
  have ADM:Hid (Adds s s7 l):=((Adds.of E5.out).trans (Adds.declare s5 i (pm i).nm l vs 1)).trans (Adds.of E7.out)
  have n0:=Blk.at_ SM.out.nb 0 rfl
  have n1:=Blk.at_ SM.out.nb 1 rfl
  have n2:=Blk.at_ SM.out.nb 2 rfl
  have n3:=Blk.at_ SM.out.nb 3 rfl
  have n4:=Blk.at_ SM.out.nb 4 rfl
  have n5:=Blk.at_ SM.out.nb 5 rfl
  have n6:=Blk.at_ SM.out.nb 6 rfl
  have n7:=Blk.at_ SM.out.nb 7 rfl
  have nf:=Blk.free SM.out.nb
  have nz:=Blk.lt SM.out.nb
  have hsl:=SM.out.ws.slice (j:=1) Zo Zo
  have hr1:Hid ((R7 1).length=s7.sc.length):=J281
  have hle:Hid (s.sc.length<=s7.sc.length):=J268
  have bw1:=Blk.at_ SM.out.ws.blk 1 rfl
  have bwf:=SM.out.ws.blk.free
  have bwz:=SM.out.ws.blk.lt
  have nwp:wp≠w.heap.size+1:=J296
  rcases hsl with ⟨hv,hl0⟩|⟨g,cap,hv,hnc,hgb⟩
  ·have hz:s.sc.length=0:=J263
   rw[hv] at bw1
   have CU:Hid _:=SM.out.cut (m:=0) hv (Nat.zero_le _)
   have HZ:Hid _:=hz
   clear hv hl0
   simp only[hz]
   clear hz
   go_wp2_with fail
   obtain ⟨V9,R9,h9⟩:=CU.out
   have S9:Hid _:=h9
   clear h9
   refine (add_ws S9.out.ws Zo S9.out.len ⟨⟨12,(pm i).line,0,0,0,{data:= #[]},2,fun _=>0,2,fun _=>0⟩,some ⟨g10,0,none⟩,cap10,some ⟨k7,0,none⟩,2⟩).mono ?_
   rintro e w9 ⟨r,hr,rfl,hp⟩
   have FIN:Hid _:=S9.out.fin (r:=r) hp (B2:=B+4000*sz i) Zo (Q:=fun s'=>Rel (pdOf pm) FX l (lp l) (rs l) i s s'/\Adds s s' l) ⟨by have e:=HZ.out;have q:Rel (pdOf pm) FX l (lp l) (rs l) i s (s7.cut s.sc.length):=(by have:=relC.try_ (pd:=pdOf pm) (FX:=FX) (l:=l) (lo:=lp l) (re:=rs l) (i:=i) (s:=s) (s1:=s5) (s2:=s7) (vs:=vs) HKK.out (by rw[show (pdOf pm i).kd 0=(a0:Int) from A0.out];exact Q5.out) (by rw[show (pdOf pm i).kd 1=(a1:Int) from A1.out,show (pdOf pm i).nn=1 from HNN.out];exact Q7.out);exact this);rw[e] at q;exact q,by have e:=HZ.out;have q:Adds s (s7.cut s.sc.length) l:=Adds.of (Adds.cut ADM.out);rw[e] at q;exact q⟩
   exact J22
  ·rw[hv] at bw1
   have m0:(0:Int)<=(s.sc.length:Int):=Zo
   have m1:(s.sc.length:Int)<=(cap:Int):=J263
   have CU:Hid _:=SM.out.cut (m:=s.sc.length) hv J300
   clear hv hnc
   go_wp2_with fail
   obtain ⟨V9,R9,h9⟩:=CU.out
   have S9:Hid _:=h9
   clear h9
   refine (add_ws S9.out.ws Zo S9.out.len ⟨⟨12,(pm i).line,0,0,0,{data:= #[]},2,fun _=>0,2,fun _=>0⟩,some ⟨g10,0,none⟩,cap10,some ⟨k7,0,none⟩,2⟩).mono ?_
   rintro e w9 ⟨r,hr,rfl,hp⟩
   have FIN:Hid _:=S9.out.fin (r:=r) hp (B2:=B+4000*sz i) Zo (Q:=fun s'=>Rel (pdOf pm) FX l (lp l) (rs l) i s s'/\Adds s s' l) ⟨(by have:=relC.try_ (pd:=pdOf pm) (FX:=FX) (l:=l) (lo:=lp l) (re:=rs l) (i:=i) (s:=s) (s1:=s5) (s2:=s7) (vs:=vs) HKK.out (by rw[show (pdOf pm i).kd 0=(a0:Int) from A0.out];exact Q5.out) (by rw[show (pdOf pm i).kd 1=(a1:Int) from A1.out,show (pdOf pm i).nn=1 from HNN.out];exact Q7.out);exact this),Adds.of (Adds.cut ADM.out)⟩
   exact J22
end Go.Proofs.YtlibofjbhhdjdaaGreat
