import Derived.Test.YtlibofjbhhdjdaaGreatQ
import Derived.Test.YtlibofjbhhdjdaaGreatP13
set_option linter.unusedSimpArgs false
set_option maxRecDepth 100000
set_option maxHeartbeats 16000000
namespace Go.Proofs.YtlibofjbhhdjdaaGreat
open Go.RowKit
attribute [local go_sem] rsf
variable {FX:List SNm->Nat->CV->Prop} {i np wp:Nat} {sz:Nat->Nat} {pm:Nat->PM} {tv:Value} {w0:World}
theorem stat_k5 (tr:Tr w0 tv np pm sz)(hi:i < np)(hk:(pm i).kind=5)(hnk:0 < (pm i).nk)(hex:∀q,q < (pm i).nk->ExprOk w0 wp tv (pdOf pm) FX sz ((pm i).kd q).toNat):StatOk w0 wp tv (pdOf pm) FX sz i:=by
 intro w own V R B lp rs l s h hl hs hf hB hll hlp
 obtain ⟨pa,pc,pb,po,sa,sc',htv,ha,hpa,hpc,hv1,⟨c0,c1,c2,c3,c4,c5,c6,c7,c8,c9⟩,b0,b1,zc,zb,i0,i1,szi,nk2,nn2⟩:=stat_pre tr hi h hs
 have ⟨HH,HL,HS,HF,HT,HA,HTV,HP,HKK,HV1⟩:=hid10 h hl hs hf tr ha htv hpc hk hv1
 have ⟨k1,k2,k3,k4,k5,k6,k15,k13,k16,k7,k8,k9,k10,k11,k12,k14⟩:=kindsAt hk
 have HE:Hid _:=hex
 obtain ⟨eb,eo,heb,hec⟩:=(ha.2 i hi).2 Zo
 rw[heb] at c9
 have HEC:Hid _:=hec
 clear hex hec hnk heb
 clear h hl hs hf tr ha hpc htv hk hv1
 go_enter Tryz.func40,Tryz.ntmps40
 go_wp2_with fail
 have SD:Hid _:=Sd.start HH.out HL.out HS.out (PB (pm i) (some ⟨eb,eo,none⟩) (pm i).nk) #[.int .i64 3,.int .i64 (pm i).line,.int .i64 0,.int .i64 (pm i).num,.float .f64 0,.string {data:= #[]},.slice none 0 0,.slice none 0 0]
 generalize (w.alloc (Obj.cells (PB (pm i) (some ⟨eb,eo,none⟩) (pm i).nk) 67)).alloc (Obj.cells #[.int .i64 3,.int .i64 (pm i).line,.int .i64 0,.int .i64 (pm i).num,.float .f64 0,.string {data:= #[]},.slice none 0 0,.slice none 0 0] 97)=wK at*
 clear zc b0 zb b1 c0 c1 c2 c3 c4 c5 c6 c7 c8 c9
 go_loopw [122] (fun x wr=>∃(j:Nat) (own1:Nat->Nat) (V1:Nat->Value) (R1:Nat->List (List Value)) (s1:St) (ka:Option Addr) (kc:Nat),j<=(pm i).nk/\x= .int .i64 j/\Sd w0 wp tv w own R l (PB (pm i) (some ⟨eb,eo,none⟩) (pm i).nk) (B+4000*psum sz (pm i).kd j) lp rs #[.int .i64 3,.int .i64 (pm i).line,.int .i64 0,.int .i64 (pm i).num,.float .f64 0,.string {data:= #[]},.slice none 0 0,.slice ka j kc] wr own1 V1 R1 s1/\TgtR (pdOf pm) FX l (lp l) (rs l) (pm i).num (pm i).kd j s s1/\s1.sc=s.sc/\LRow wr (w.heap.size+2) own1 ka j kc) (fun x _=>(pm i).nk-(intOf x).toNat)
 case atStart=>exact ⟨0,own,V,R,s,none,0,Nat.zero_le _,rfl,SD.out,relC.tnil,rfl,LRow.nil _ _ _⟩
 case round=>
  obtain ⟨j,own1,V1,R1,s1,ka,kc,hj,rfl,h1,t1,e1,r1⟩:=hrel
  have S1:Hid _:=h1
  have T1:Hid _:=t1
  have E1:Hid _:=e1
  have R1':Hid _:=r1
  clear h1 t1 e1 r1
  by_cases hlt:j < (pm i).nk
  ·obtain ⟨q,hq⟩:∃q:Nat,(pm i).kd j=q:=⟨((pm i).kd j).toNat,by have:=(HT.out.kid i hi j hlt).1;omega⟩
   have hqi:q < i:=J313
   have x0:=con S1.out.ws.wk.ov (HEC.out j hlt)
   rw[hq] at x0
   have zx:=clt x0
   have HQ:Hid _:=hq
   have qn:Hid (((pm i).kd j).toNat=q):=by show _=_;rw[hq];rfl
   clear hq
   have HEQ:Hid (ExprOk w0 wp tv (pdOf pm) FX sz q):=by
    have e:=HE.out j hlt
    rw[qn.out] at e
    exact e
   have j0:(0:Int)<=(j:Int):=Zo
   have j1:(j:Int) < ((pm i).nk:Int):=Zo
   have hps:Hid (psum sz (pm i).kd (j+1)=psum sz (pm i).kd j+sz q):=by show _=_;rw[psum,qn.out]
   have hle:Hid (psum sz (pm i).kd (j+1)<=psum sz (pm i).kd (pm i).nk):=psum_le Zo
   have hbnd:B+4000*psum sz (pm i).kd j+4000*sz q<=16000000:=J306
   have p5:=Blk.at_ S1.out.pb 5 rfl
   have pz:=Blk.lt S1.out.pb
   obtain ⟨wo,hwo⟩:∃y,y=wr:=⟨_,rfl⟩
   subst hwo
   go_upto_if 130 with (fail)
   go_cut [16] (fun yv wd=>∃(y:Nat) (own2:Nat->Nat) (V2:Nat->Value) (R2:Nat->List (List Value)) (s2:St),yv= .int .i64 y/\y<=16777216/\Sd w0 wp tv w own R l (PB (pm i) (some ⟨eb,eo,none⟩) (pm i).nk) (B+4000*psum sz (pm i).kd j+4000*sz q) lp rs #[.int .i64 3,.int .i64 (pm i).line,.int .i64 0,.int .i64 (pm i).num,.float .f64 0,.string {data:= #[]},.slice none 0 0,.slice ka j kc] wd own2 V2 R2 s2/\TgtR (pdOf pm) FX l (lp l) (rs l) (pm i).num (pm i).kd (j+1) s s2/\s2.sc=s.sc/\LRow wd (w.heap.size+2) own2 ka j kc)
   case first=>
    by_cases hjn:(j:Int) < (pm i).num
    ·go_wp2_with fail
     clear p5 pz x0 zx
     refine (target_ws HT.out S1.out.ws S1.out.len S1.out.at_ (SFn.of HF.out E1.out) (i:=q) Zo Zo Zo ⟨hlp.1,by have:=hlp.2;omega⟩ HEQ.out).mono ?_
     rintro e w5 ⟨y,hy,rfl,hp⟩
     obtain ⟨own5,V5,R5,s5,h5,⟨q5,e5⟩,f5⟩:=S1.out.postS hp
     have FIN:Hid (Sd w0 wp tv w own R l (PB (pm i) (some ⟨eb,eo,none⟩) (pm i).nk) (B+4000*psum sz (pm i).kd j+4000*sz q) lp rs #[.int .i64 3,.int .i64 (pm i).line,.int .i64 0,.int .i64 (pm i).num,.float .f64 0,.string {data:= #[]},.slice none 0 0,.slice ka j kc] w5 own5 V5 R5 s5/\TgtR (pdOf pm) FX l (lp l) (rs l) (pm i).num (pm i).kd (j+1) s s5/\s5.sc=s.sc/\LRow w5 (w.heap.size+2) own5 ka j kc):=by
      refine ⟨h5,?_,e5.trans E1.out,LRow.fr R1'.out f5⟩
      rcases q5 with ⟨k5,e⟩|⟨k5,r5⟩
      ·rw[e]
       have:=relC.tname (pd:=pdOf pm) T1.out hjn (by rw[qn.out];exact k5)
       rw[qn.out] at this
       exact this
      ·exact relC.texpr T1.out (Or.inr (by rw[qn.out];exact k5)) (by rw[qn.out];exact r5)
     exact J146
    ·go_wp2_with fail
     clear p5 pz x0 zx
     refine (HEQ.out _ own1 V1 R1 _ lp rs l s1 S1.out.ws S1.out.len S1.out.at_ (SFn.of HF.out E1.out) Zo Zo ⟨hlp.1,by have:=hlp.2;omega⟩).mono ?_
     rintro e w5 ⟨y,hy,rfl,hp⟩
     obtain ⟨own5,V5,R5,s5,h5,⟨q5,e5⟩,f5⟩:=S1.out.postS hp
     have FIN:Hid (Sd w0 wp tv w own R l (PB (pm i) (some ⟨eb,eo,none⟩) (pm i).nk) (B+4000*psum sz (pm i).kd j+4000*sz q) lp rs #[.int .i64 3,.int .i64 (pm i).line,.int .i64 0,.int .i64 (pm i).num,.float .f64 0,.string {data:= #[]},.slice none 0 0,.slice ka j kc] w5 own5 V5 R5 s5/\TgtR (pdOf pm) FX l (lp l) (rs l) (pm i).num (pm i).kd (j+1) s s5/\s5.sc=s.sc/\LRow w5 (w.heap.size+2) own5 ka j kc):=⟨h5,relC.texpr T1.out (Or.inl Zo) (by rw[qn.out];exact q5),e5.trans E1.out,LRow.fr R1'.out f5⟩
     exact J146
   case rest=>
    obtain ⟨y,own2,V2,R2,s2,rfl,hy,h2,t2,e2,r2⟩:=hcut
    obtain ⟨ol,r2a,r2b,r2c⟩:=r2
    have S2:Hid _:=h2
    have T2:Hid _:=t2
    have E2:Hid _:=e2
    have RA:Hid _:=r2a
    have RB:Hid _:=r2b
    have RC:Hid _:=r2c
    have hxo:=r2a.row
    rw[r2b] at hxo
    clear h2 t2 e2 r2a r2b r2c p5 pz x0 zx
    obtain ⟨i2,hi2,hy0,hy1,hy2⟩:=info_parts info_int
    have N:=Blk.new wc 3 #[.int .i64 y]
    have zf:=S2.out.fr.size
    have zn:=Blk.lt S2.out.nb
    have n7:=Blk.at_ S2.out.nb 7 rfl
    go_wp2_with (first|(at_builtin;refine wpList_app _ rfl (.tmp 138) (.tmp 140) 64 rfl (w.heap.size+2) 3 i2 _ 1 8 Tryz.underlying64 hi2 hy0 hy1 hy2 rfl Zb (.slice ka j kc) j ol.flatten rfl (World.ownsRow.alloc hxo _) ⟨wc.heap.size,0,none⟩ 1 1 [.int .i64 y] rfl rfl (fun j u hj=>by rw[Go.WideShapes.add_plain,N.cell,Nat.zero_add];simpa using hj) J262 Zb Zm Zo Zj ?_;intro g10 cap10 w10 hown hgrow hwhere;obtain ⟨ap1,ap2⟩:=S2.out.app RA.out RB.out RC.out (Onw.alloc _ _) hown hgrow hwhere;have n72:w10.cell? ⟨w.heap.size+1,7,none⟩=some (.slice ka j kc):=(Blk.cell ap1.nb 7).trans rfl;have nf2:=Blk.free ap1.nb;have nz2:=Blk.lt ap1.nb;have AP1:Hid _:=ap1;have AP2:Hid _:=ap2;clear ap1 ap2))
    go_roundw
    case rel=>
     have h9:=AP1.out.setN 7 (.slice (some ⟨g10,0,none⟩) (j+1:Nat) cap10)
     simp only[List.setIfInBounds_toArray,List.set_cons_zero,List.set_cons_succ] at h9
     have e:=hps.out
     exact ⟨j+1,own2,V2,R2,s2,some ⟨g10,0,none⟩,cap10,by omega,by go_num,h9.more Zo,T2.out,E2.out,LRow.far AP2.out Zo _ _⟩
    case measure=>simp[intOf];omega
  ·have hjj:j=(pm i).nk:=Zo
   have T9:Hid (TgtR (pdOf pm) FX l (lp l) (rs l) (pm i).num (pm i).kd (pm i).nk s s1):=by have:=T1.out;rw[hjj] at this;exact this
   have BJ:Hid (psum sz (pm i).kd j+1<=sz i):=by show _<=_;rw[hjj];exact szi
   clear hjj
   have n0:=Blk.at_ S1.out.nb 0 rfl
   have n1:=Blk.at_ S1.out.nb 1 rfl
   have n2:=Blk.at_ S1.out.nb 2 rfl
   have n3:=Blk.at_ S1.out.nb 3 rfl
   have n4:=Blk.at_ S1.out.nb 4 rfl
   have n5:=Blk.at_ S1.out.nb 5 rfl
   have n6:=Blk.at_ S1.out.nb 6 rfl
   have n7:=Blk.at_ S1.out.nb 7 rfl
   have nf:=Blk.free S1.out.nb
   have nz:=Blk.lt S1.out.nb
   go_wp2_with fail
   refine (add_ws S1.out.ws (by have:=BJ.out;omega) S1.out.len ⟨⟨3,(pm i).line,0,(pm i).num,0,{data:= #[]},0,fun _=>0,j,fun _=>0⟩,none,0,ka,kc⟩).mono ?_
   rintro e w9 ⟨r,hr,rfl,hp⟩
   have FIN:Hid _:=S1.out.fin (r:=r) hp (B2:=B+4000*sz i) (by have:=BJ.out;omega) (Q:=fun s'=>Rel (pdOf pm) FX l (lp l) (rs l) i s s'/\Adds s s' l) ⟨relC.set HKK.out T9.out,Adds.of E1.out⟩
   exact J22
theorem stat_k7_3 (tr:Tr w0 tv np pm sz)(hi:i < np)(hk:(pm i).kind=7)(hnk:(pm i).nk=3)(fx:FixOk w0 wp tv np FX)(hex:ExprOk w0 wp tv (pdOf pm) FX sz ((pm i).kd 0).toNat)(hbl:BlockOk w0 wp tv (pdOf pm) FX sz ((pm i).kd 1).toNat)(hk3:(pm ((pm i).kd 2).toNat).kind≠3)(hst:StatOk w0 wp tv (pdOf pm) FX sz ((pm i).kd 2).toNat):StatOk w0 wp tv (pdOf pm) FX sz i:=by
 intro w own V R B lp rs l s h hl hs hf hB hll hlp
 obtain ⟨pa,pc,pb,po,sa,sc',htv,ha,hpa,hpc,hv1,⟨c0,c1,c2,c3,c4,c5,c6,c7,c8,c9⟩,b0,b1,zc,zb,i0,i1,szi,nk2,nn2⟩:=stat_pre tr hi h hs
 have ⟨HH,HL,HS,HF,HT,HA,HTV,HP,HKK,HV1⟩:=hid10 h hl hs hf tr ha htv hpc hk hv1
 have ⟨k1,k2,k3,k4,k5,k6,k15,k13,k16,k7,k8,k9,k10,k11,k12,k14⟩:=kindsAt hk
 have HFX:Hid _:=fx
 obtain ⟨eb,eo,heb,hec⟩:=(ha.2 i hi).2 Zo
 rw[heb] at c9
 obtain ⟨a0,ha0⟩:∃a:Nat,(pm i).kd 0=a:=⟨((pm i).kd 0).toNat,by have:=(tr.kid i hi 0 Zo).1;omega⟩
 have l0:a0 < i:=by have:=(tr.kid i hi 0 Zo).2;omega
 have Y0:Hid (w0.cell? ⟨eb,eo+0,none⟩=some (.int .i64 a0)):=by have:=hec 0 Zo;rw[ha0] at this;exact this
 have A0:Hid ((pm i).kd 0=a0):=ha0
 obtain ⟨a1,ha1⟩:∃a:Nat,(pm i).kd 1=a:=⟨((pm i).kd 1).toNat,by have:=(tr.kid i hi 1 Zo).1;omega⟩
 have l1:a1 < i:=by have:=(tr.kid i hi 1 Zo).2;omega
 have Y1:Hid (w0.cell? ⟨eb,eo+1,none⟩=some (.int .i64 a1)):=by have:=hec 1 Zo;rw[ha1] at this;exact this
 have A1:Hid ((pm i).kd 1=a1):=ha1
 obtain ⟨a2,ha2⟩:∃a:Nat,(pm i).kd 2=a:=⟨((pm i).kd 2).toNat,by have:=(tr.kid i hi 2 Zo).1;omega⟩
 have l2:a2 < i:=by have:=(tr.kid i hi 2 Zo).2;omega
 have Y2:Hid (w0.cell? ⟨eb,eo+2,none⟩=some (.int .i64 a2)):=by have:=hec 2 Zo;rw[ha2] at this;exact this
 have A2:Hid ((pm i).kd 2=a2):=ha2
 have hsz:sz a0+sz a1+sz a2+1<=sz i:=by
  exact J167
 have HNK:Hid _:=hnk
 rw[ha0,show ((a0:Int)).toNat=a0 from rfl] at hex
 have HE:Hid _:=hex
 rw[ha1,show ((a1:Int)).toNat=a1 from rfl] at hbl
 have HB:Hid _:=hbl
 rw[ha2,show ((a2:Int)).toNat=a2 from rfl] at hst hk3
 have HST:Hid _:=hst
 have HK3:Hid _:=hk3
 clear hst hk3
 have y0:w.cell? ⟨eb,eo,none⟩=some (.int .i64 a0):=con h.wk.ov Y0.out
 have zy0:=clt y0
 rw[hnk] at c9 nk2
 clear fx hex hbl hec ha0 ha1 ha2 hnk heb
 clear h hl hs hf tr ha hpc htv hk hv1
 go_enter Tryz.func40,Tryz.ntmps40
 go_wp2_with fail
 have SD:Hid _:=Sd.start HH.out HL.out HS.out (PB (pm i) (some ⟨eb,eo,none⟩) 3) #[.int .i64 0,.int .i64 (pm i).line,.int .i64 0,.int .i64 0,.float .f64 0,.string {data:= #[]},.slice none 0 0,.slice none 0 0]
 generalize (w.alloc (Obj.cells (PB (pm i) (some ⟨eb,eo,none⟩) 3) 67)).alloc (Obj.cells #[.int .i64 0,.int .i64 (pm i).line,.int .i64 0,.int .i64 0,.float .f64 0,.string {data:= #[]},.slice none 0 0,.slice none 0 0] 97)=wK at*
 clear zc b0 zb b1 c0 c1 c2 c3 c4 c5 c6 c7 c8 c9
 clear y0 zy0
 refine (test_ws HFX.out SD.out.ws SD.out.at_ HF.out (i:=a0) Zo Zo).mono ?_
 rintro e w4 ⟨rfl,hp⟩
 obtain ⟨own4,V4,R4,s4,h4,⟨cv,q4,e4⟩,_⟩:=SD.out.postS hp
 have SE:Hid _:=h4
 have E4:Hid (s4.sc=s.sc):=by show _=_;rw[e4];cases cv.code==0 <;> rfl
 have Q4:Hid (FX s.sc a0 cv/\s4=bif cv.code==0 then s.note a0 0 5 else s):=⟨q4,e4⟩
 have sg:=h4.setN 0 (.int .i64 5)
 simp only[List.setIfInBounds_toArray,List.set_cons_zero] at sg
 have SG:Hid _:=sg
 clear hp h4 q4 e4 sg
 have n0:=Blk.at_ SE.out.nb 0 rfl
 have n1:=Blk.at_ SE.out.nb 1 rfl
 have n2:=Blk.at_ SE.out.nb 2 rfl
 have n3:=Blk.at_ SE.out.nb 3 rfl
 have n4:=Blk.at_ SE.out.nb 4 rfl
 have n5:=Blk.at_ SE.out.nb 5 rfl
 have n6:=Blk.at_ SE.out.nb 6 rfl
 have n7:=Blk.at_ SE.out.nb 7 rfl
 have nf:=Blk.free SE.out.nb
 have nz:=Blk.lt SE.out.nb
 have p9:=Blk.at_ SE.out.pb 9 rfl
 have pz:=Blk.lt SE.out.pb
 have y0:w4.cell? ⟨eb,eo,none⟩=some (.int .i64 a0):=con SE.out.ws.wk.ov Y0.out
 have zy0:=clt y0
 have npn:w.heap.size≠w.heap.size+1:=Zo
 have ebn:eb≠w.heap.size+1:=by have:=clt Y0.out;have:=SE.out.base;omega
 go_wp2_with fail
 clear n0 n1 n2 n3 n4 n5 n6 n7 nf nz p9 pz y0 zy0
 generalize w4.setCell ⟨w.heap.size+1,0,none⟩ (.int .i64 5)=wS at*
 refine (HE.out _ own4 V4 R4 _ lp rs l s4 SG.out.ws SG.out.len SG.out.at_ (SFn.of HF.out E4.out) Zo Zo ⟨hlp.1,by have:=hlp.2;omega⟩).mono ?_
 rintro e w5 ⟨x,hx,rfl,hp⟩
 obtain ⟨own5,V5,R5,s5,h5,⟨q5,e5⟩,_⟩:=SG.out.postS hp
 have SH:Hid _:=h5
 have Q5:Hid _:=q5
 have E5:Hid (s5.sc=s.sc):=e5.trans E4.out
 clear hp h5 q5 e5
 have p9:=Blk.at_ SH.out.pb 9 rfl
 have pz:=Blk.lt SH.out.pb
 have y1:w5.cell? ⟨eb,eo+1,none⟩=some (.int .i64 a1):=con SH.out.ws.wk.ov Y1.out
 have zy1:=clt y1
 go_wp2_with fail
 clear p9 pz y1 zy1
 refine (HB.out _ own5 V5 R5 _ lp rs l s5 SH.out.ws SH.out.len SH.out.at_ (SFn.of HF.out E5.out) Zo Zo ⟨hlp.1,by have:=hlp.2;omega⟩).mono ?_
 rintro e w6 ⟨y,hy,rfl,hp⟩
 obtain ⟨own6,V6,R6,s6,h6,⟨q6,e6⟩,_⟩:=SH.out.postS hp
 have SI:Hid _:=h6
 have Q6:Hid _:=q6
 have E6:Hid (s6.sc=s.sc):=e6.trans E5.out
 have sj:=h6.setN 7 (.slice (some ⟨w6.heap.size,0,none⟩) 2 2)
 simp only[List.setIfInBounds_toArray,List.set_cons_zero,List.set_cons_succ] at sj
 have SJ:Hid _:=sj.onw (Onw.alloc _ (.cells #[.int .i64 x,.int .i64 y] 3))
 have lj:=LRow.two (w6.setCell ⟨w.heap.size+1,7,none⟩ (.slice (some ⟨w6.heap.size,0,none⟩) 2 2)) (w.heap.size+2) own6 (by have:=h6.nb.lt;rw[World.size_setCell];omega) (by rw[World.size_setCell];exact h6.ws.wk.high _ (Nat.le_refl _)) x y
 rw[World.size_setCell] at lj
 have LJ:Hid _:=lj
 clear lj
 clear hp h6 q6 e6 sj
 have n0:=Blk.at_ SI.out.nb 0 rfl
 have n1:=Blk.at_ SI.out.nb 1 rfl
 have n2:=Blk.at_ SI.out.nb 2 rfl
 have n3:=Blk.at_ SI.out.nb 3 rfl
 have n4:=Blk.at_ SI.out.nb 4 rfl
 have n5:=Blk.at_ SI.out.nb 5 rfl
 have n6:=Blk.at_ SI.out.nb 6 rfl
 have n7:=Blk.at_ SI.out.nb 7 rfl
 have nf:=Blk.free SI.out.nb
 have nz:=Blk.lt SI.out.nb
 go_upto_region 55 with (fail)
 clear n0 n1 n2 n3 n4 n5 n6 n7 nf nz
 generalize ((w6.setCell ⟨w.heap.size+1,7,none⟩ (.slice (some ⟨w6.heap.size,0,none⟩) 2 2)).alloc (Obj.cells #[.int .i64 x,.int .i64 y] 3))=wJ at*
 generalize w6.heap.size=k6 at*
 obtain ⟨i2,hi2,hy0,hy1,hy2⟩:=info_parts info_int
 have n7:=Blk.at_ SJ.out.nb 7 rfl
 have nz:=Blk.lt SJ.out.nb
 have p9:=Blk.at_ SJ.out.pb 9 rfl
 have pz:=Blk.lt SJ.out.pb
 have y2:wJ.cell? ⟨eb,eo+2,none⟩=some (.int .i64 a2):=con SJ.out.ws.wk.ov Y2.out
 have zy2:=clt y2
 refine wp_region_held_drew (S:=(fun w'=>w'.cell? ⟨w.heap.size,9,none⟩=some (.slice (some ⟨eb,eo,none⟩) 3 (pm i).kc)/\w'.cell? ⟨eb,eo+2,none⟩=some (.int .i64 a2))) (by kernel_rfl) J292 (fun hHeld=>?_)
 refine tk 0 ?_
 refine tk 2 ?_
 refine tk 3 ?_
 refine tk 4 ?_
 refine tk 5 ?_
 refine tk 6 ?_
 refine rd [1,7] ?_
 refine AllReadyH.cons rfl (fun K hK=>?_) ?_
 ·simp only[gA,gB,gC]
  go_simp
  refine hK.out _ _ J292 (fun hHeld=>?_)
  clear hK K
  try simp only[gA,gB,gC,Act.put,gD,gE,gF]
  refine rd [7] ?_
  refine AllReadyH.cons rfl (fun K hK=>?_) ?_
  ·simp only[gA,gB,gC]
   go_simp
   refine (HST.out _ own6 V6 R6 _ lp rs l s6 (SJ.out.ws.onw (Below.drew (Onw.refl _))) SJ.out.len SJ.out.at_ (SFn.of HF.out E6.out) Zo Zo ⟨hlp.1,by have:=hlp.2;omega⟩).mono ?_
   rintro e w8 ⟨ra,n,rc,hn2,hn1,rfl,own8,V8,R8,s8,h8,f8,a8,l8,m8,q8,ad8,lr8⟩
   obtain ⟨n',rfl⟩:∃n',n=n'+1:=⟨n-1,by have:=hn1 HK3.out;omega⟩
   obtain ⟨gr,qr,hra,hgb,hgo,hgc,v0⟩:=LRow.cell lr8 (i:=0) Zo
   subst hra
   have SK:Hid _:=(SJ.out.onw (Below.drew (Onw.refl wJ))).step h8 f8 a8 l8 m8
   have LK:Hid _:=LRow.fr (LRow.onw LJ.out (Below.drew (Onw.refl wJ))) f8
   have Q8:Hid _:=q8
   have E8:Hid (Adds s s8 l):=(Adds.of E6.out).trans ad8
   have KE:Hid (w8.cell? ⟨w.heap.size,9,none⟩=some (.slice (some ⟨eb,eo,none⟩) 3 (pm i).kc)/\w8.cell? ⟨eb,eo+2,none⟩=some (.int .i64 a2)):=⟨(Blk.cell SK.out.pb 9).trans rfl,con SK.out.ws.wk.ov Y2.out⟩
   have zv:=clt v0
   have n78:=Blk.at_ SK.out.nb 7 rfl
   have nz8:=Blk.lt SK.out.nb
   have kp:=KE.out.1
   have ky:=KE.out.2
   have zkp:=clt kp
   have zky:=clt ky
   have n0':(0:Int) < (n':Int)+1:=Zo
   clear h8 f8 a8 l8 m8 q8 ad8 lr8 hgb hgo hgc hn1
   refine hK.out _ _ KE.out (fun hHeld=>?_)
   clear hK K
   try simp only[gA,gB,gC,Act.put,gD,gE,gF]
   refine tk 8 ?_
   exact J168
  exact AllReadyH.nil
 refine AllReadyH.cons rfl (fun K hK=>?_) ?_
 ·simp only[gA,gB,gC]
  go_simp
  refine (HST.out _ own6 V6 R6 _ lp rs l s6 (SJ.out.ws.onw (Below.drew (Onw.refl _))) SJ.out.len SJ.out.at_ (SFn.of HF.out E6.out) Zo Zo ⟨hlp.1,by have:=hlp.2;omega⟩).mono ?_
  rintro e w8 ⟨ra,n,rc,hn2,hn1,rfl,own8,V8,R8,s8,h8,f8,a8,l8,m8,q8,ad8,lr8⟩
  obtain ⟨n',rfl⟩:∃n',n=n'+1:=⟨n-1,by have:=hn1 HK3.out;omega⟩
  obtain ⟨gr,qr,hra,hgb,hgo,hgc,v0⟩:=LRow.cell lr8 (i:=0) Zo
  subst hra
  have SK:Hid _:=(SJ.out.onw (Below.drew (Onw.refl wJ))).step h8 f8 a8 l8 m8
  have LK:Hid _:=LRow.fr (LRow.onw LJ.out (Below.drew (Onw.refl wJ))) f8
  have Q8:Hid _:=q8
  have E8:Hid (Adds s s8 l):=(Adds.of E6.out).trans ad8
  have KE:Hid (w8.cell? ⟨w.heap.size,9,none⟩=some (.slice (some ⟨eb,eo,none⟩) 3 (pm i).kc)/\w8.cell? ⟨eb,eo+2,none⟩=some (.int .i64 a2)):=⟨(Blk.cell SK.out.pb 9).trans rfl,con SK.out.ws.wk.ov Y2.out⟩
  have zv:=clt v0
  have n78:=Blk.at_ SK.out.nb 7 rfl
  have nz8:=Blk.lt SK.out.nb
  have kp:=KE.out.1
  have ky:=KE.out.2
  have zkp:=clt kp
  have zky:=clt ky
  have n0':(0:Int) < (n':Int)+1:=Zo
  clear h8 f8 a8 l8 m8 q8 ad8 lr8 hgb hgo hgc hn1
  refine hK.out _ _ KE.out (fun hHeld=>?_)
  clear hK K
  try simp only[gA,gB,gC,Act.put,gD,gE,gF]
  refine tk 8 ?_
  refine rd [1,9] ?_
  refine AllReadyH.cons rfl (fun K hK=>?_) ?_
  ·simp only[gA,gB,gC]
   go_simp
   refine hK.out _ _ J292 (fun hHeld=>?_)
   clear hK K
   try simp only[gA,gB,gC,Act.put,gD,gE,gF]
   exact J168
  refine AllReadyH.cons rfl (fun K hK=>?_) ?_
  ·simp only[gA,gB,gC]
   go_simp
   refine hK.out _ _ J292 (fun hHeld=>?_)
   clear hK K
   try simp only[gA,gB,gC,Act.put,gD,gE,gF]
   refine rd [1,10] ?_
   refine AllReadyH.cons rfl (fun K hK=>?_) ?_
   ·exact J78
   refine AllReadyH.cons rfl (fun K hK=>?_) ?_
   ·simp only[gA,gB,gC]
    go_simp
    refine hK.out _ _ J292 (fun hHeld=>?_)
    clear hK K
    try simp only[gA,gB,gC,Act.put,gD,gE,gF]
    refine rd [1] ?_
    exact J7
   exact AllReadyH.nil
  exact AllReadyH.nil
 exact AllReadyH.nil
theorem stat_k14_2 (tr:Tr w0 tv np pm sz)(hi:i < np)(hk:(pm i).kind=14)(hnk:(pm i).nk=2)(hnn:(pm i).nn=2)(hb0:BlockOk w0 wp tv (pdOf pm) FX sz ((pm i).kd 0).toNat)(hb1:BlockOk w0 wp tv (pdOf pm) FX sz ((pm i).kd 1).toNat):StatOk w0 wp tv (pdOf pm) FX sz i:=by
 intro w own V R B lp rs l s h hl hs hf hB hll hlp
 obtain ⟨pa,pc,pb,po,sa,sc',htv,ha,hpa,hpc,hv1,⟨c0,c1,c2,c3,c4,c5,c6,c7,c8,c9⟩,b0,b1,zc,zb,i0,i1,szi,nk2,nn2⟩:=stat_pre tr hi h hs
 have ⟨HH,HL,HS,HF,HT,HA,HTV,HP,HKK,HV1⟩:=hid10 h hl hs hf tr ha htv hpc hk hv1
 have ⟨k1,k2,k3,k4,k5,k6,k15,k13,k16,k7,k8,k9,k10,k11,k12,k14⟩:=kindsAt hk
 obtain ⟨eb,eo,heb,hec⟩:=(ha.2 i hi).2 Zo
 rw[heb] at c9
 obtain ⟨a0,ha0⟩:∃a:Nat,(pm i).kd 0=a:=⟨((pm i).kd 0).toNat,by have:=(tr.kid i hi 0 Zo).1;omega⟩
 have l0:a0 < i:=by have:=(tr.kid i hi 0 Zo).2;omega
 have Y0:Hid (w0.cell? ⟨eb,eo+0,none⟩=some (.int .i64 a0)):=by have:=hec 0 Zo;rw[ha0] at this;exact this
 have A0:Hid ((pm i).kd 0=a0):=ha0
 obtain ⟨a1,ha1⟩:∃a:Nat,(pm i).kd 1=a:=⟨((pm i).kd 1).toNat,by have:=(tr.kid i hi 1 Zo).1;omega⟩
 have l1:a1 < i:=by have:=(tr.kid i hi 1 Zo).2;omega
 have Y1:Hid (w0.cell? ⟨eb,eo+1,none⟩=some (.int .i64 a1)):=by have:=hec 1 Zo;rw[ha1] at this;exact this
 have A1:Hid ((pm i).kd 1=a1):=ha1
 have hsz:sz a0+sz a1+1<=sz i:=by
  exact J85
 have HNK:Hid _:=hnk
 rw[ha0,show ((a0:Int)).toNat=a0 from rfl] at hb0
 rw[ha1,show ((a1:Int)).toNat=a1 from rfl] at hb1
 have HB0:Hid _:=hb0
 have HB1:Hid _:=hb1
 have hnm:Hid (StrsAt w0 (pm i).na 2 (pm i).nm):=by have:=(ha.2 i hi).1;rw[hnn] at this;exact this
 have y0:w.cell? ⟨eb,eo,none⟩=some (.int .i64 a0):=con h.wk.ov Y0.out
 have zy0:=clt y0
 have HNN:Hid _:=hnn
 rw[hnk] at c9 nk2
 rw[hnn] at c8 nn2
 clear hb0 hb1 hec ha0 ha1 hnk hnn heb
 clear h hl hs hf tr ha hpc htv hk hv1
 go_enter Tryz.func40,Tryz.ntmps40
 go_wp2_with fail
 have SD:Hid _:=Sd.start HH.out HL.out HS.out #[.int .i64 (pm i).kind,.int .i64 (pm i).frm,.int .i64 (pm i).tto,.int .i64 (pm i).line,.int .i64 (pm i).op,.int .i64 (pm i).num,.float .f64 (pm i).flt,.string (pm i).text,.slice (pm i).na 2 (pm i).nc,.slice (some ⟨eb,eo,none⟩) 2 (pm i).kc] #[.int .i64 12,.int .i64 (pm i).line,.int .i64 0,.int .i64 0,.float .f64 0,.string {data:= #[]},.slice none 0 0,.slice none 0 0]
 generalize (w.alloc (Obj.cells #[.int .i64 (pm i).kind,.int .i64 (pm i).frm,.int .i64 (pm i).tto,.int .i64 (pm i).line,.int .i64 (pm i).op,.int .i64 (pm i).num,.float .f64 (pm i).flt,.string (pm i).text,.slice (pm i).na 2 (pm i).nc,.slice (some ⟨eb,eo,none⟩) 2 (pm i).kc] 67)).alloc (Obj.cells #[.int .i64 12,.int .i64 (pm i).line,.int .i64 0,.int .i64 0,.float .f64 0,.string {data:= #[]},.slice none 0 0,.slice none 0 0] 97)=wK at*
 clear zc b0 zb b1 c0 c1 c2 c3 c4 c5 c6 c7 c8 c9
 clear y0 zy0
 refine (HB0.out _ own V R B lp rs l s SD.out.ws SD.out.len SD.out.at_ HF.out Zo Zo ⟨hlp.1,by have:=hlp.2;omega⟩).mono ?_
 rintro e w5 ⟨x,hx,rfl,hp⟩
 obtain ⟨own5,V5,R5,s5,h5,⟨q5,e5⟩,_⟩:=SD.out.postS hp
 have SE:Hid _:=h5
 have Q5:Hid _:=q5
 have E5:Hid _:=e5
 clear hp h5 q5 e5
 have p8:=Blk.at_ SE.out.pb 8 rfl
 have pz:=Blk.lt SE.out.pb
 go_wp2_with fail
 clear p8 pz
 have z5:w.heap.size+2<=w5.heap.size:=by have:=Blk.lt SE.out.nb;omega
 refine (declare_ws SE.out.ws SE.out.at_.scope (l:=l) SE.out.len i (pm i).na 2 (pm i).nc (pm i).nm Zo hnm.out).mono ?_
 rintro e w6 ⟨oa,oc,vs,rfl,own6,V6,R6,h6,f6,sr6,lr6⟩
 have SI:Hid _:=SE.out.decl h6 f6 sr6
 have sj:=SI.out.setN 6 (.slice oa 2 oc)
 simp only[List.setIfInBounds_toArray,List.set_cons_zero,List.set_cons_succ] at sj
 have SJ:Hid _:=sj
 have LJ:Hid _:=LRow.far (lr6.base z5) (b:=w.heap.size+1) Zo 6 (.slice oa 2 oc)
 clear h6 f6 sr6 lr6 sj
 have n0:=Blk.at_ SI.out.nb 0 rfl
 have n1:=Blk.at_ SI.out.nb 1 rfl
 have n2:=Blk.at_ SI.out.nb 2 rfl
 have n3:=Blk.at_ SI.out.nb 3 rfl
 have n4:=Blk.at_ SI.out.nb 4 rfl
 have n5:=Blk.at_ SI.out.nb 5 rfl
 have n6:=Blk.at_ SI.out.nb 6 rfl
 have n7:=Blk.at_ SI.out.nb 7 rfl
 have nf:=Blk.free SI.out.nb
 have nz:=Blk.lt SI.out.nb
 have p8:=Blk.at_ SI.out.pb 8 rfl
 have p9:=Blk.at_ SI.out.pb 9 rfl
 have pz:=Blk.lt SI.out.pb
 have y1:w6.cell? ⟨eb,eo+1,none⟩=some (.int .i64 a1):=con SI.out.ws.wk.ov Y1.out
 have zy1:=clt y1
 have npn:w.heap.size≠w.heap.size+1:=Zo
 have ebn:eb≠w.heap.size+1:=by have:=clt Y1.out;have:=SI.out.base;omega
 go_wp2_with fail
 clear n0 n1 n2 n3 n4 n5 n6 n7 nf nz p8 p9 pz y1 zy1
 generalize w6.setCell ⟨w.heap.size+1,6,none⟩ (.slice oa 2 oc)=wS at*
 refine (HB1.out _ own6 V6 R6 _ lp rs l _ SJ.out.ws SJ.out.len SJ.out.at_ (SFn.adds (SFn.of HF.out E5.out) (Adds.declare _ _ _ _ _ _)) Zo Zo ⟨hlp.1,by have:=hlp.2;omega⟩).mono ?_
 rintro e w7 ⟨y,hy,rfl,hp⟩
 obtain ⟨own7,V7,R7,s7,h7,⟨q7,e7⟩,_⟩:=SJ.out.postS hp
 have SK:Hid _:=h7
 have Q7:Hid _:=q7
 have E7:Hid _:=e7
 have sm:=h7.setN 7 (.slice (some ⟨w7.heap.size,0,none⟩) 2 2)
 simp only[List.setIfInBounds_toArray,List.set_cons_zero,List.set_cons_succ] at sm
 have SM:Hid _:=sm.onw (Onw.alloc _ (.cells #[.int .i64 x,.int .i64 y] 3))
 clear hp h7 q7 e7 sm
 have n0:=Blk.at_ SK.out.nb 0 rfl
 have n1:=Blk.at_ SK.out.nb 1 rfl
 have n2:=Blk.at_ SK.out.nb 2 rfl
 have n3:=Blk.at_ SK.out.nb 3 rfl
 have n4:=Blk.at_ SK.out.nb 4 rfl
 have n5:=Blk.at_ SK.out.nb 5 rfl
 have n6:=Blk.at_ SK.out.nb 6 rfl
 have n7:=Blk.at_ SK.out.nb 7 rfl
 have nf:=Blk.free SK.out.nb
 have nz:=Blk.lt SK.out.nb
 go_upto_region 91 with (fail)
 clear n0 n1 n2 n3 n4 n5 n6 n7 nf nz
 generalize ((w7.setCell ⟨w.heap.size+1,7,none⟩ (.slice (some ⟨w7.heap.size,0,none⟩) 2 2)).alloc (Obj.cells #[.int .i64 x,.int .i64 y] 3))=wM at*
 generalize w7.heap.size=k7 at*
 have ADM:Hid (Adds s s7 l):=((Adds.of E5.out).trans (Adds.declare s5 i (pm i).nm l vs 2)).trans (Adds.of E7.out)
 have n0:=Blk.at_ SM.out.nb 0 rfl
 have n1:=Blk.at_ SM.out.nb 1 rfl
 have n2:=Blk.at_ SM.out.nb 2 rfl
 have n3:=Blk.at_ SM.out.nb 3 rfl
 have n4:=Blk.at_ SM.out.nb 4 rfl
 have n5:=Blk.at_ SM.out.nb 5 rfl
 have n6:=Blk.at_ SM.out.nb 6 rfl
 have n7:=Blk.at_ SM.out.nb 7 rfl
 have nf:=Blk.free SM.out.nb
 have nz:=Blk.lt SM.out.nb
 have hsl:=SM.out.ws.slice (j:=1) Zo Zo
 have hr1:Hid ((R7 1).length=s7.sc.length):=J281
 have hle:Hid (s.sc.length<=s7.sc.length):=J268
 have bw1:=Blk.at_ SM.out.ws.blk 1 rfl
 have bwf:=SM.out.ws.blk.free
 have bwz:=SM.out.ws.blk.lt
 have nwp:wp≠w.heap.size+1:=J296
 rcases hsl with ⟨hv,hl0⟩|⟨g,cap,hv,hnc,hgb⟩
 ·have hz:s.sc.length=0:=J263
  rw[hv] at bw1
  have CU:Hid _:=SM.out.cut (m:=0) hv (Nat.zero_le _)
  have HZ:Hid _:=hz
  clear hv hl0
  simp only[hz]
  clear hz
  go_wp2_with fail
  obtain ⟨V9,R9,h9⟩:=CU.out
  have S9:Hid _:=h9
  clear h9
  refine (add_ws S9.out.ws Zo S9.out.len ⟨⟨12,(pm i).line,0,0,0,{data:= #[]},2,fun _=>0,2,fun _=>0⟩,oa,oc,some ⟨k7,0,none⟩,2⟩).mono ?_
  rintro e w9 ⟨r,hr,rfl,hp⟩
  have FIN:Hid _:=S9.out.fin (r:=r) hp (B2:=B+4000*sz i) Zo (Q:=fun s'=>Rel (pdOf pm) FX l (lp l) (rs l) i s s'/\Adds s s' l) ⟨by have e:=HZ.out;have q:Rel (pdOf pm) FX l (lp l) (rs l) i s (s7.cut s.sc.length):=(by have:=relC.try_ (pd:=pdOf pm) (FX:=FX) (l:=l) (lo:=lp l) (re:=rs l) (i:=i) (s:=s) (s1:=s5) (s2:=s7) (vs:=vs) HKK.out (by rw[show (pdOf pm i).kd 0=(a0:Int) from A0.out];exact Q5.out) (by rw[show (pdOf pm i).kd 1=(a1:Int) from A1.out,show (pdOf pm i).nn=2 from HNN.out];exact Q7.out);exact this);rw[e] at q;exact q,by have e:=HZ.out;have q:Adds s (s7.cut s.sc.length) l:=Adds.of (Adds.cut ADM.out);rw[e] at q;exact q⟩
  exact J22
 ·rw[hv] at bw1
  have m0:(0:Int)<=(s.sc.length:Int):=Zo
  have m1:(s.sc.length:Int)<=(cap:Int):=J263
  have CU:Hid _:=SM.out.cut (m:=s.sc.length) hv J300
  clear hv hnc
  go_wp2_with fail
  obtain ⟨V9,R9,h9⟩:=CU.out
  have S9:Hid _:=h9
  clear h9
  refine (add_ws S9.out.ws Zo S9.out.len ⟨⟨12,(pm i).line,0,0,0,{data:= #[]},2,fun _=>0,2,fun _=>0⟩,oa,oc,some ⟨k7,0,none⟩,2⟩).mono ?_
  rintro e w9 ⟨r,hr,rfl,hp⟩
  have FIN:Hid _:=S9.out.fin (r:=r) hp (B2:=B+4000*sz i) Zo (Q:=fun s'=>Rel (pdOf pm) FX l (lp l) (rs l) i s s'/\Adds s s' l) ⟨(by have:=relC.try_ (pd:=pdOf pm) (FX:=FX) (l:=l) (lo:=lp l) (re:=rs l) (i:=i) (s:=s) (s1:=s5) (s2:=s7) (vs:=vs) HKK.out (by rw[show (pdOf pm i).kd 0=(a0:Int) from A0.out];exact Q5.out) (by rw[show (pdOf pm i).kd 1=(a1:Int) from A1.out,show (pdOf pm i).nn=2 from HNN.out];exact Q7.out);exact this),Adds.of (Adds.cut ADM.out)⟩
  exact J22
end Go.Proofs.YtlibofjbhhdjdaaGreat
