import Derived.Test.YtlibofjbhhdjdaaGreatQ
import Derived.Test.YtlibofjbhhdjdaaGreatP13
set_option linter.unusedSimpArgs false
set_option maxRecDepth 100000
set_option maxHeartbeats 16000000
namespace Go.Proofs.YtlibofjbhhdjdaaGreat
open Go.RowKit
attribute [local go_sem] rsf
variable {FX:List SNm->Nat->CV->Prop} {i np wp:Nat} {sz:Nat->Nat} {pm:Nat->PM} {tv:Value} {w0:World}
theorem stat_k11 (tr:Tr w0 tv np pm sz)(hi:i < np)(hk:(pm i).kind=11):StatOk w0 wp tv (pdOf pm) FX sz i:=by
 intro w own V R B lp rs l s h hl hs hf hB hll hlp
 obtain ⟨pa,pc,pb,po,sa,sc',htv,ha,hpa,hpc,hv1,⟨c0,c1,c2,c3,c4,c5,c6,c7,c8,c9⟩,b0,b1,zc,zb,i0,i1,szi,nk2,nn2⟩:=stat_pre tr hi h hs
 have ⟨HH,HL,HS,HF,HT,HA,HTV,HP,HKK,HV1⟩:=hid10 h hl hs hf tr ha htv hpc hk hv1
 have ⟨k1,k2,k3,k4,k5,k6,k15,k13,k16,k7,k8,k9,k10,k11,k12,k14⟩:=kindsAt hk
 clear h hl hs hf tr ha hpc htv hk hv1
 go_enter Tryz.func40,Tryz.ntmps40
 go_wp2_with fail
 have SD:Hid _:=Sd.start HH.out HL.out HS.out (PB (pm i) (pm i).ka (pm i).nk) #[.int .i64 9,.int .i64 (pm i).line,.int .i64 0,.int .i64 0,.float .f64 0,.string {data:= #[]},.slice none 0 0,.slice none 0 0]
 generalize (w.alloc (Obj.cells (PB (pm i) (pm i).ka (pm i).nk) 67)).alloc (Obj.cells #[.int .i64 9,.int .i64 (pm i).line,.int .i64 0,.int .i64 0,.float .f64 0,.string {data:= #[]},.slice none 0 0,.slice none 0 0] 97)=wK at*
 obtain ⟨g,cap,hv2,hcall⟩:=fn_wk SD.out.ws.wk l SD.out.len Zo
 refine hcall.mono ?_
 rintro e w6 ⟨rfl,o6⟩
 have SE:Hid _:=SD.out.onw o6
 obtain ⟨g',cap',cells,hv,hnc,ho,hkk,hcl,hL,hcc,hfz⟩:=SE.out.ws.level (k:=l) (by rw[SE.out.len];omega)
 have hg':g'=g:=Ze
 subst hg'
 obtain ⟨num,nam,ln,pr,vv,uv,nv,vls,us,ns,hcells,rv,ru,rn,hus,lv,lu,lnn⟩:=hL
 have d8:w6.cell? ⟨g',l*9+8,none⟩=some (.int .i64 (lp l)):=by rw[hcc 8 Zo,hcells];rfl
 have zg:=clt d8
 have n0:=Blk.at_ SE.out.nb 0 rfl
 have n1:=Blk.at_ SE.out.nb 1 rfl
 have n2:=Blk.at_ SE.out.nb 2 rfl
 have n3:=Blk.at_ SE.out.nb 3 rfl
 have n4:=Blk.at_ SE.out.nb 4 rfl
 have n5:=Blk.at_ SE.out.nb 5 rfl
 have n6:=Blk.at_ SE.out.nb 6 rfl
 have n7:=Blk.at_ SE.out.nb 7 rfl
 have nf:=Blk.free SE.out.nb
 have nz:=Blk.lt SE.out.nb
 clear hcall hv2 o6 hv hnc ho hkk hcl hcc hfz hcells rv ru rn hus lv lu lnn zc b0 zb b1 c0 c1 c2 c3 c4 c5 c6 c7 c8 c9
 cases hz:(lp l==0)
 ·go_wp2_with fail
  refine (add_ws SE.out.ws Zo SE.out.len ⟨⟨9,(pm i).line,0,0,0,{data:= #[]},0,fun _=>0,0,fun _=>0⟩,none,0,none,0⟩).mono ?_
  rintro e w9 ⟨r,hr,rfl,hp⟩
  have FIN:Hid _:=SE.out.fin (r:=r) hp (B2:=B+4000*sz i) Zo (Q:=fun s'=>Rel (pdOf pm) FX l (lp l) (rs l) i s s'/\Adds s s' l) ⟨by have:=relC.brk (pd:=pdOf pm) (FX:=FX) (l:=l) (lo:=lp l) (re:=rs l) (i:=i) (s:=s) (Or.inl HKK.out);rw[hz] at this;exact this,Adds.refl _ _⟩
  exact J22
 ·go_wp2_with fail
  refine (fault_ws SE.out.ws Zo 4 i).mono ?_
  rintro e w7 ⟨rfl,hp7⟩
  obtain ⟨own7,V7,R7,s7,h7,e7,_⟩:=SE.out.postS (hp7.toS (P:=fun s'=>s'=s.fault 4 i) (SE.out.at_.fault 4 i) rfl rfl)
  subst e7
  have SG:Hid _:=h7
  clear n0 n1 n2 n3 n4 n5 n6 n7 nf nz hp7 h7
  have n0:=Blk.at_ SG.out.nb 0 rfl
  have n1:=Blk.at_ SG.out.nb 1 rfl
  have n2:=Blk.at_ SG.out.nb 2 rfl
  have n3:=Blk.at_ SG.out.nb 3 rfl
  have n4:=Blk.at_ SG.out.nb 4 rfl
  have n5:=Blk.at_ SG.out.nb 5 rfl
  have n6:=Blk.at_ SG.out.nb 6 rfl
  have n7:=Blk.at_ SG.out.nb 7 rfl
  have nf:=Blk.free SG.out.nb
  have nz:=Blk.lt SG.out.nb
  go_wp2_with fail
  refine (add_ws SG.out.ws Zo SG.out.len ⟨⟨9,(pm i).line,0,0,0,{data:= #[]},0,fun _=>0,0,fun _=>0⟩,none,0,none,0⟩).mono ?_
  rintro e w9 ⟨r,hr,rfl,hp⟩
  have FIN:Hid _:=SG.out.fin (r:=r) hp (B2:=B+4000*sz i) Zo (Q:=fun s'=>Rel (pdOf pm) FX l (lp l) (rs l) i s s'/\Adds s s' l) ⟨by have:=relC.brk (pd:=pdOf pm) (FX:=FX) (l:=l) (lo:=lp l) (re:=rs l) (i:=i) (s:=s) (Or.inl HKK.out);rw[hz] at this;exact this,Adds.of rfl⟩
  exact J22
theorem stat_k12 (tr:Tr w0 tv np pm sz)(hi:i < np)(hk:(pm i).kind=12):StatOk w0 wp tv (pdOf pm) FX sz i:=by
 intro w own V R B lp rs l s h hl hs hf hB hll hlp
 obtain ⟨pa,pc,pb,po,sa,sc',htv,ha,hpa,hpc,hv1,⟨c0,c1,c2,c3,c4,c5,c6,c7,c8,c9⟩,b0,b1,zc,zb,i0,i1,szi,nk2,nn2⟩:=stat_pre tr hi h hs
 have ⟨HH,HL,HS,HF,HT,HA,HTV,HP,HKK,HV1⟩:=hid10 h hl hs hf tr ha htv hpc hk hv1
 have ⟨k1,k2,k3,k4,k5,k6,k15,k13,k16,k7,k8,k9,k10,k11,k12,k14⟩:=kindsAt hk
 clear h hl hs hf tr ha hpc htv hk hv1
 go_enter Tryz.func40,Tryz.ntmps40
 go_wp2_with fail
 have SD:Hid _:=Sd.start HH.out HL.out HS.out (PB (pm i) (pm i).ka (pm i).nk) #[.int .i64 10,.int .i64 (pm i).line,.int .i64 0,.int .i64 0,.float .f64 0,.string {data:= #[]},.slice none 0 0,.slice none 0 0]
 generalize (w.alloc (Obj.cells (PB (pm i) (pm i).ka (pm i).nk) 67)).alloc (Obj.cells #[.int .i64 10,.int .i64 (pm i).line,.int .i64 0,.int .i64 0,.float .f64 0,.string {data:= #[]},.slice none 0 0,.slice none 0 0] 97)=wK at*
 obtain ⟨g,cap,hv2,hcall⟩:=fn_wk SD.out.ws.wk l SD.out.len Zo
 refine hcall.mono ?_
 rintro e w6 ⟨rfl,o6⟩
 have SE:Hid _:=SD.out.onw o6
 obtain ⟨g',cap',cells,hv,hnc,ho,hkk,hcl,hL,hcc,hfz⟩:=SE.out.ws.level (k:=l) (by rw[SE.out.len];omega)
 have hg':g'=g:=Ze
 subst hg'
 obtain ⟨num,nam,ln,pr,vv,uv,nv,vls,us,ns,hcells,rv,ru,rn,hus,lv,lu,lnn⟩:=hL
 have d8:w6.cell? ⟨g',l*9+8,none⟩=some (.int .i64 (lp l)):=by rw[hcc 8 Zo,hcells];rfl
 have zg:=clt d8
 have n0:=Blk.at_ SE.out.nb 0 rfl
 have n1:=Blk.at_ SE.out.nb 1 rfl
 have n2:=Blk.at_ SE.out.nb 2 rfl
 have n3:=Blk.at_ SE.out.nb 3 rfl
 have n4:=Blk.at_ SE.out.nb 4 rfl
 have n5:=Blk.at_ SE.out.nb 5 rfl
 have n6:=Blk.at_ SE.out.nb 6 rfl
 have n7:=Blk.at_ SE.out.nb 7 rfl
 have nf:=Blk.free SE.out.nb
 have nz:=Blk.lt SE.out.nb
 clear hcall hv2 o6 hv hnc ho hkk hcl hcc hfz hcells rv ru rn hus lv lu lnn zc b0 zb b1 c0 c1 c2 c3 c4 c5 c6 c7 c8 c9
 cases hz:(lp l==0)
 ·go_wp2_with fail
  refine (add_ws SE.out.ws Zo SE.out.len ⟨⟨10,(pm i).line,0,0,0,{data:= #[]},0,fun _=>0,0,fun _=>0⟩,none,0,none,0⟩).mono ?_
  rintro e w9 ⟨r,hr,rfl,hp⟩
  have FIN:Hid _:=SE.out.fin (r:=r) hp (B2:=B+4000*sz i) Zo (Q:=fun s'=>Rel (pdOf pm) FX l (lp l) (rs l) i s s'/\Adds s s' l) ⟨by have:=relC.brk (pd:=pdOf pm) (FX:=FX) (l:=l) (lo:=lp l) (re:=rs l) (i:=i) (s:=s) (Or.inr HKK.out);rw[hz] at this;exact this,Adds.refl _ _⟩
  exact J22
 ·go_wp2_with fail
  refine (fault_ws SE.out.ws Zo 4 i).mono ?_
  rintro e w7 ⟨rfl,hp7⟩
  obtain ⟨own7,V7,R7,s7,h7,e7,_⟩:=SE.out.postS (hp7.toS (P:=fun s'=>s'=s.fault 4 i) (SE.out.at_.fault 4 i) rfl rfl)
  subst e7
  have SG:Hid _:=h7
  clear n0 n1 n2 n3 n4 n5 n6 n7 nf nz hp7 h7
  have n0:=Blk.at_ SG.out.nb 0 rfl
  have n1:=Blk.at_ SG.out.nb 1 rfl
  have n2:=Blk.at_ SG.out.nb 2 rfl
  have n3:=Blk.at_ SG.out.nb 3 rfl
  have n4:=Blk.at_ SG.out.nb 4 rfl
  have n5:=Blk.at_ SG.out.nb 5 rfl
  have n6:=Blk.at_ SG.out.nb 6 rfl
  have n7:=Blk.at_ SG.out.nb 7 rfl
  have nf:=Blk.free SG.out.nb
  have nz:=Blk.lt SG.out.nb
  go_wp2_with fail
  refine (add_ws SG.out.ws Zo SG.out.len ⟨⟨10,(pm i).line,0,0,0,{data:= #[]},0,fun _=>0,0,fun _=>0⟩,none,0,none,0⟩).mono ?_
  rintro e w9 ⟨r,hr,rfl,hp⟩
  have FIN:Hid _:=SG.out.fin (r:=r) hp (B2:=B+4000*sz i) Zo (Q:=fun s'=>Rel (pdOf pm) FX l (lp l) (rs l) i s s'/\Adds s s' l) ⟨by have:=relC.brk (pd:=pdOf pm) (FX:=FX) (l:=l) (lo:=lp l) (re:=rs l) (i:=i) (s:=s) (Or.inr HKK.out);rw[hz] at this;exact this,Adds.of rfl⟩
  exact J22
theorem stat_k1 (tr:Tr w0 tv np pm sz)(hi:i < np)(hk:(pm i).kind=1)(hbl:BlockOk w0 wp tv (pdOf pm) FX sz i):StatOk w0 wp tv (pdOf pm) FX sz i:=by
 intro w own V R B lp rs l s h hl hs hf hB hll hlp
 obtain ⟨pa,pc,pb,po,sa,sc',htv,ha,hpa,hpc,hv1,⟨c0,c1,c2,c3,c4,c5,c6,c7,c8,c9⟩,b0,b1,zc,zb,i0,i1,szi,nk2,nn2⟩:=stat_pre tr hi h hs
 have ⟨HH,HL,HS,HF,HT,HA,HTV,HP,HKK,HV1⟩:=hid10 h hl hs hf tr ha htv hpc hk hv1
 have ⟨k1,k2,k3,k4,k5,k6,k15,k13,k16,k7,k8,k9,k10,k11,k12,k14⟩:=kindsAt hk
 have HB:Hid _:=hbl
 clear hbl
 clear h hl hs hf tr ha hpc htv hk hv1
 go_enter Tryz.func40,Tryz.ntmps40
 go_wp2_with fail
 have SD:Hid _:=Sd.start HH.out HL.out HS.out (PB (pm i) (pm i).ka (pm i).nk) #[.int .i64 0,.int .i64 (pm i).line,.int .i64 0,.int .i64 0,.float .f64 0,.string {data:= #[]},.slice none 0 0,.slice none 0 0]
 generalize (w.alloc (Obj.cells (PB (pm i) (pm i).ka (pm i).nk) 67)).alloc (Obj.cells #[.int .i64 0,.int .i64 (pm i).line,.int .i64 0,.int .i64 0,.float .f64 0,.string {data:= #[]},.slice none 0 0,.slice none 0 0] 97)=wK at*
 refine (HB.out _ own V R B lp rs l s SD.out.ws SD.out.len SD.out.at_ HF.out hB hll hlp).mono ?_
 rintro e w9 ⟨r,hr,rfl,hp⟩
 obtain ⟨own7,V7,R7,s7,h7,⟨e7,e8⟩,_⟩:=SD.out.postS hp
 have FIN:Hid _:=h7.ret r (B2:=B+4000*sz i) (Nat.le_refl _) (Q:=fun s'=>Rel (pdOf pm) FX l (lp l) (rs l) i s s'/\Adds s s' l) ⟨e7,Adds.of e8⟩
 clear hp h7
 clear zc b0 zb b1 c0 c1 c2 c3 c4 c5 c6 c7 c8 c9
 exact J224
theorem stat_k6 (tr:Tr w0 tv np pm sz)(hi:i < np)(hk:(pm i).kind=6)(hex:∀q,q < (pm i).nk->ExprOk w0 wp tv (pdOf pm) FX sz ((pm i).kd q).toNat):StatOk w0 wp tv (pdOf pm) FX sz i:=by
 intro w own V R B lp rs l s h hl hs hf hB hll hlp
 obtain ⟨pa,pc,pb,po,sa,sc',htv,ha,hpa,hpc,hv1,⟨c0,c1,c2,c3,c4,c5,c6,c7,c8,c9⟩,b0,b1,zc,zb,i0,i1,szi,nk2,nn2⟩:=stat_pre tr hi h hs
 have ⟨HH,HL,HS,HF,HT,HA,HTV,HP,HKK,HV1⟩:=hid10 h hl hs hf tr ha htv hpc hk hv1
 have ⟨k1,k2,k3,k4,k5,k6,k15,k13,k16,k7,k8,k9,k10,k11,k12,k14⟩:=kindsAt hk
 have HE:Hid _:=hex
 have HKI:Hid _:=(ha.2 i hi).2
 clear hex
 clear h hl hs hf tr ha hpc htv hk hv1
 go_enter Tryz.func40,Tryz.ntmps40
 go_wp2_with fail
 have SD:Hid _:=Sd.start HH.out HL.out HS.out (PB (pm i) (pm i).ka (pm i).nk) #[.int .i64 4,.int .i64 (pm i).line,.int .i64 0,.int .i64 0,.float .f64 0,.string {data:= #[]},.slice none 0 0,.slice none 0 0]
 generalize (w.alloc (Obj.cells (PB (pm i) (pm i).ka (pm i).nk) 67)).alloc (Obj.cells #[.int .i64 4,.int .i64 (pm i).line,.int .i64 0,.int .i64 0,.float .f64 0,.string {data:= #[]},.slice none 0 0,.slice none 0 0] 97)=wK at*
 refine (exprs_ws SD.out.ws SD.out.len SD.out.at_ HF.out (pm i).ka (pm i).nk (pm i).kc (pm i).kd HKI.out nk2 hlp.1 (fun q hq=>by have:=HT.out.kid i hi q hq;have:=hlp.2;omega) Zo (fun q hq=>HE.out q hq)).mono ?_
 rintro e w5 ⟨oa,oc,rfl,own5,V5,R5,s5,h5,f5,a5,l5,m5,q5,e5,lr5⟩
 have SE:Hid _:=SD.out.step h5 f5 a5 l5 m5
 have SG:Hid _:=SE.out.setN 7 (.slice oa (pm i).nk oc)
 have REL:Hid (Rel (pdOf pm) FX l (lp l) (rs l) i s s5):=relC.plain J273 q5
 have ADD:Hid (Adds s s5 l):=Adds.of e5
 clear h5 f5 a5 l5 m5 q5 e5 lr5
 clear zc b0 zb b1 c0 c1 c2 c3 c4 c5 c6 c7 c8 c9
 have n0:=Blk.at_ SE.out.nb 0 rfl
 have n1:=Blk.at_ SE.out.nb 1 rfl
 have n2:=Blk.at_ SE.out.nb 2 rfl
 have n3:=Blk.at_ SE.out.nb 3 rfl
 have n4:=Blk.at_ SE.out.nb 4 rfl
 have n5:=Blk.at_ SE.out.nb 5 rfl
 have n6:=Blk.at_ SE.out.nb 6 rfl
 have n7:=Blk.at_ SE.out.nb 7 rfl
 have nf:=Blk.free SE.out.nb
 have nz:=Blk.lt SE.out.nb
 go_wp2_with fail
 refine (add_ws SG.out.ws Zo SG.out.len ⟨⟨4,(pm i).line,0,0,0,{data:= #[]},0,fun _=>0,(pm i).nk,fun _=>0⟩,none,0,oa,oc⟩).mono ?_
 exact J69
theorem stat_k13 (tr:Tr w0 tv np pm sz)(hi:i < np)(hk:(pm i).kind=13)(hex:∀q,q < (pm i).nk->ExprOk w0 wp tv (pdOf pm) FX sz ((pm i).kd q).toNat):StatOk w0 wp tv (pdOf pm) FX sz i:=by
 intro w own V R B lp rs l s h hl hs hf hB hll hlp
 obtain ⟨pa,pc,pb,po,sa,sc',htv,ha,hpa,hpc,hv1,⟨c0,c1,c2,c3,c4,c5,c6,c7,c8,c9⟩,b0,b1,zc,zb,i0,i1,szi,nk2,nn2⟩:=stat_pre tr hi h hs
 have ⟨HH,HL,HS,HF,HT,HA,HTV,HP,HKK,HV1⟩:=hid10 h hl hs hf tr ha htv hpc hk hv1
 have ⟨k1,k2,k3,k4,k5,k6,k15,k13,k16,k7,k8,k9,k10,k11,k12,k14⟩:=kindsAt hk
 have HE:Hid _:=hex
 have HKI:Hid _:=(ha.2 i hi).2
 clear hex
 clear h hl hs hf tr ha hpc htv hk hv1
 go_enter Tryz.func40,Tryz.ntmps40
 go_wp2_with fail
 have SD:Hid _:=Sd.start HH.out HL.out HS.out (PB (pm i) (pm i).ka (pm i).nk) #[.int .i64 11,.int .i64 (pm i).line,.int .i64 0,.int .i64 0,.float .f64 0,.string {data:= #[]},.slice none 0 0,.slice none 0 0]
 generalize (w.alloc (Obj.cells (PB (pm i) (pm i).ka (pm i).nk) 67)).alloc (Obj.cells #[.int .i64 11,.int .i64 (pm i).line,.int .i64 0,.int .i64 0,.float .f64 0,.string {data:= #[]},.slice none 0 0,.slice none 0 0] 97)=wK at*
 refine (exprs_ws SD.out.ws SD.out.len SD.out.at_ HF.out (pm i).ka (pm i).nk (pm i).kc (pm i).kd HKI.out nk2 hlp.1 (fun q hq=>by have:=HT.out.kid i hi q hq;have:=hlp.2;omega) Zo (fun q hq=>HE.out q hq)).mono ?_
 rintro e w5 ⟨oa,oc,rfl,own5,V5,R5,s5,h5,f5,a5,l5,m5,q5,e5,lr5⟩
 have SE:Hid _:=SD.out.step h5 f5 a5 l5 m5
 have SG:Hid _:=SE.out.setN 7 (.slice oa (pm i).nk oc)
 have REL:Hid (Rel (pdOf pm) FX l (lp l) (rs l) i s s5):=relC.plain J273 q5
 have ADD:Hid (Adds s s5 l):=Adds.of e5
 clear h5 f5 a5 l5 m5 q5 e5 lr5
 clear zc b0 zb b1 c0 c1 c2 c3 c4 c5 c6 c7 c8 c9
 have n0:=Blk.at_ SE.out.nb 0 rfl
 have n1:=Blk.at_ SE.out.nb 1 rfl
 have n2:=Blk.at_ SE.out.nb 2 rfl
 have n3:=Blk.at_ SE.out.nb 3 rfl
 have n4:=Blk.at_ SE.out.nb 4 rfl
 have n5:=Blk.at_ SE.out.nb 5 rfl
 have n6:=Blk.at_ SE.out.nb 6 rfl
 have n7:=Blk.at_ SE.out.nb 7 rfl
 have nf:=Blk.free SE.out.nb
 have nz:=Blk.lt SE.out.nb
 go_wp2_with fail
 refine (add_ws SG.out.ws Zo SG.out.len ⟨⟨11,(pm i).line,0,0,0,{data:= #[]},0,fun _=>0,(pm i).nk,fun _=>0⟩,none,0,oa,oc⟩).mono ?_
 exact J69
theorem stat_k15 (tr:Tr w0 tv np pm sz)(hi:i < np)(hk:(pm i).kind=15)(hex:∀q,q < (pm i).nk->ExprOk w0 wp tv (pdOf pm) FX sz ((pm i).kd q).toNat):StatOk w0 wp tv (pdOf pm) FX sz i:=by
 intro w own V R B lp rs l s h hl hs hf hB hll hlp
 obtain ⟨pa,pc,pb,po,sa,sc',htv,ha,hpa,hpc,hv1,⟨c0,c1,c2,c3,c4,c5,c6,c7,c8,c9⟩,b0,b1,zc,zb,i0,i1,szi,nk2,nn2⟩:=stat_pre tr hi h hs
 have ⟨HH,HL,HS,HF,HT,HA,HTV,HP,HKK,HV1⟩:=hid10 h hl hs hf tr ha htv hpc hk hv1
 have ⟨k1,k2,k3,k4,k5,k6,k15,k13,k16,k7,k8,k9,k10,k11,k12,k14⟩:=kindsAt hk
 have HE:Hid _:=hex
 have HKI:Hid _:=(ha.2 i hi).2
 clear hex
 clear h hl hs hf tr ha hpc htv hk hv1
 go_enter Tryz.func40,Tryz.ntmps40
 go_wp2_with fail
 have SD:Hid _:=Sd.start HH.out HL.out HS.out (PB (pm i) (pm i).ka (pm i).nk) #[.int .i64 13,.int .i64 (pm i).line,.int .i64 0,.int .i64 0,.float .f64 0,.string {data:= #[]},.slice none 0 0,.slice none 0 0]
 generalize (w.alloc (Obj.cells (PB (pm i) (pm i).ka (pm i).nk) 67)).alloc (Obj.cells #[.int .i64 13,.int .i64 (pm i).line,.int .i64 0,.int .i64 0,.float .f64 0,.string {data:= #[]},.slice none 0 0,.slice none 0 0] 97)=wK at*
 refine (exprs_ws SD.out.ws SD.out.len SD.out.at_ HF.out (pm i).ka (pm i).nk (pm i).kc (pm i).kd HKI.out nk2 hlp.1 (fun q hq=>by have:=HT.out.kid i hi q hq;have:=hlp.2;omega) Zo (fun q hq=>HE.out q hq)).mono ?_
 rintro e w5 ⟨oa,oc,rfl,own5,V5,R5,s5,h5,f5,a5,l5,m5,q5,e5,lr5⟩
 have SE:Hid _:=SD.out.step h5 f5 a5 l5 m5
 have SG:Hid _:=SE.out.setN 7 (.slice oa (pm i).nk oc)
 have REL:Hid (Rel (pdOf pm) FX l (lp l) (rs l) i s s5):=relC.plain J273 q5
 have ADD:Hid (Adds s s5 l):=Adds.of e5
 clear h5 f5 a5 l5 m5 q5 e5 lr5
 clear zc b0 zb b1 c0 c1 c2 c3 c4 c5 c6 c7 c8 c9
 have n0:=Blk.at_ SE.out.nb 0 rfl
 have n1:=Blk.at_ SE.out.nb 1 rfl
 have n2:=Blk.at_ SE.out.nb 2 rfl
 have n3:=Blk.at_ SE.out.nb 3 rfl
 have n4:=Blk.at_ SE.out.nb 4 rfl
 have n5:=Blk.at_ SE.out.nb 5 rfl
 have n6:=Blk.at_ SE.out.nb 6 rfl
 have n7:=Blk.at_ SE.out.nb 7 rfl
 have nf:=Blk.free SE.out.nb
 have nz:=Blk.lt SE.out.nb
 go_wp2_with fail
 refine (add_ws SG.out.ws Zo SG.out.len ⟨⟨13,(pm i).line,0,0,0,{data:= #[]},0,fun _=>0,(pm i).nk,fun _=>0⟩,none,0,oa,oc⟩).mono ?_
 exact J69
theorem stat_k16 (tr:Tr w0 tv np pm sz)(hi:i < np)(hk:(pm i).kind=16)(hex:∀q,q < (pm i).nk->ExprOk w0 wp tv (pdOf pm) FX sz ((pm i).kd q).toNat):StatOk w0 wp tv (pdOf pm) FX sz i:=by
 intro w own V R B lp rs l s h hl hs hf hB hll hlp
 obtain ⟨pa,pc,pb,po,sa,sc',htv,ha,hpa,hpc,hv1,⟨c0,c1,c2,c3,c4,c5,c6,c7,c8,c9⟩,b0,b1,zc,zb,i0,i1,szi,nk2,nn2⟩:=stat_pre tr hi h hs
 have ⟨HH,HL,HS,HF,HT,HA,HTV,HP,HKK,HV1⟩:=hid10 h hl hs hf tr ha htv hpc hk hv1
 have ⟨k1,k2,k3,k4,k5,k6,k15,k13,k16,k7,k8,k9,k10,k11,k12,k14⟩:=kindsAt hk
 have HE:Hid _:=hex
 have HKI:Hid _:=(ha.2 i hi).2
 clear hex
 clear h hl hs hf tr ha hpc htv hk hv1
 go_enter Tryz.func40,Tryz.ntmps40
 go_wp2_with fail
 have SD:Hid _:=Sd.start HH.out HL.out HS.out (PB (pm i) (pm i).ka (pm i).nk) #[.int .i64 14,.int .i64 (pm i).line,.int .i64 0,.int .i64 0,.float .f64 0,.string {data:= #[]},.slice none 0 0,.slice none 0 0]
 generalize (w.alloc (Obj.cells (PB (pm i) (pm i).ka (pm i).nk) 67)).alloc (Obj.cells #[.int .i64 14,.int .i64 (pm i).line,.int .i64 0,.int .i64 0,.float .f64 0,.string {data:= #[]},.slice none 0 0,.slice none 0 0] 97)=wK at*
 refine (exprs_ws SD.out.ws SD.out.len SD.out.at_ HF.out (pm i).ka (pm i).nk (pm i).kc (pm i).kd HKI.out nk2 hlp.1 (fun q hq=>by have:=HT.out.kid i hi q hq;have:=hlp.2;omega) Zo (fun q hq=>HE.out q hq)).mono ?_
 rintro e w5 ⟨oa,oc,rfl,own5,V5,R5,s5,h5,f5,a5,l5,m5,q5,e5,lr5⟩
 have SE:Hid _:=SD.out.step h5 f5 a5 l5 m5
 have SG:Hid _:=SE.out.setN 7 (.slice oa (pm i).nk oc)
 have REL:Hid (Rel (pdOf pm) FX l (lp l) (rs l) i s s5):=relC.plain J273 q5
 have ADD:Hid (Adds s s5 l):=Adds.of e5
 clear h5 f5 a5 l5 m5 q5 e5 lr5
 clear zc b0 zb b1 c0 c1 c2 c3 c4 c5 c6 c7 c8 c9
 have n0:=Blk.at_ SE.out.nb 0 rfl
 have n1:=Blk.at_ SE.out.nb 1 rfl
 have n2:=Blk.at_ SE.out.nb 2 rfl
 have n3:=Blk.at_ SE.out.nb 3 rfl
 have n4:=Blk.at_ SE.out.nb 4 rfl
 have n5:=Blk.at_ SE.out.nb 5 rfl
 have n6:=Blk.at_ SE.out.nb 6 rfl
 have n7:=Blk.at_ SE.out.nb 7 rfl
 have nf:=Blk.free SE.out.nb
 have nz:=Blk.lt SE.out.nb
 go_wp2_with fail
 refine (add_ws SG.out.ws Zo SG.out.len ⟨⟨14,(pm i).line,0,0,0,{data:= #[]},0,fun _=>0,(pm i).nk,fun _=>0⟩,none,0,oa,oc⟩).mono ?_
 exact J69
theorem stat_k7_2 (tr:Tr w0 tv np pm sz)(hi:i < np)(hk:(pm i).kind=7)(hnk:(pm i).nk=2)(fx:FixOk w0 wp tv np FX)(hex:ExprOk w0 wp tv (pdOf pm) FX sz ((pm i).kd 0).toNat)(hbl:BlockOk w0 wp tv (pdOf pm) FX sz ((pm i).kd 1).toNat):StatOk w0 wp tv (pdOf pm) FX sz i:=by
 intro w own V R B lp rs l s h hl hs hf hB hll hlp
 obtain ⟨pa,pc,pb,po,sa,sc',htv,ha,hpa,hpc,hv1,⟨c0,c1,c2,c3,c4,c5,c6,c7,c8,c9⟩,b0,b1,zc,zb,i0,i1,szi,nk2,nn2⟩:=stat_pre tr hi h hs
 have ⟨HH,HL,HS,HF,HT,HA,HTV,HP,HKK,HV1⟩:=hid10 h hl hs hf tr ha htv hpc hk hv1
 have ⟨k1,k2,k3,k4,k5,k6,k15,k13,k16,k7,k8,k9,k10,k11,k12,k14⟩:=kindsAt hk
 have HFX:Hid _:=fx
 obtain ⟨eb,eo,heb,hec⟩:=(ha.2 i hi).2 Zo
 rw[heb] at c9
 obtain ⟨a0,ha0⟩:∃a:Nat,(pm i).kd 0=a:=⟨((pm i).kd 0).toNat,by have:=(tr.kid i hi 0 Zo).1;omega⟩
 have l0:a0 < i:=by have:=(tr.kid i hi 0 Zo).2;omega
 have Y0:Hid (w0.cell? ⟨eb,eo+0,none⟩=some (.int .i64 a0)):=by have:=hec 0 Zo;rw[ha0] at this;exact this
 have A0:Hid ((pm i).kd 0=a0):=ha0
 obtain ⟨a1,ha1⟩:∃a:Nat,(pm i).kd 1=a:=⟨((pm i).kd 1).toNat,by have:=(tr.kid i hi 1 Zo).1;omega⟩
 have l1:a1 < i:=by have:=(tr.kid i hi 1 Zo).2;omega
 have Y1:Hid (w0.cell? ⟨eb,eo+1,none⟩=some (.int .i64 a1)):=by have:=hec 1 Zo;rw[ha1] at this;exact this
 have A1:Hid ((pm i).kd 1=a1):=ha1
 have hsz:sz a0+sz a1+1<=sz i:=by
  exact J85
 have HNK:Hid _:=hnk
 rw[ha0,show ((a0:Int)).toNat=a0 from rfl] at hex
 have HE:Hid _:=hex
 rw[ha1,show ((a1:Int)).toNat=a1 from rfl] at hbl
 have HB:Hid _:=hbl
 have y0:w.cell? ⟨eb,eo,none⟩=some (.int .i64 a0):=con h.wk.ov Y0.out
 have zy0:=clt y0
 rw[hnk] at c9 nk2
 clear fx hex hbl hec ha0 ha1 hnk heb
 clear h hl hs hf tr ha hpc htv hk hv1
 go_enter Tryz.func40,Tryz.ntmps40
 go_wp2_with fail
 have SD:Hid _:=Sd.start HH.out HL.out HS.out (PB (pm i) (some ⟨eb,eo,none⟩) 2) #[.int .i64 0,.int .i64 (pm i).line,.int .i64 0,.int .i64 0,.float .f64 0,.string {data:= #[]},.slice none 0 0,.slice none 0 0]
 generalize (w.alloc (Obj.cells (PB (pm i) (some ⟨eb,eo,none⟩) 2) 67)).alloc (Obj.cells #[.int .i64 0,.int .i64 (pm i).line,.int .i64 0,.int .i64 0,.float .f64 0,.string {data:= #[]},.slice none 0 0,.slice none 0 0] 97)=wK at*
 clear zc b0 zb b1 c0 c1 c2 c3 c4 c5 c6 c7 c8 c9
 clear y0 zy0
 refine (test_ws HFX.out SD.out.ws SD.out.at_ HF.out (i:=a0) Zo Zo).mono ?_
 rintro e w4 ⟨rfl,hp⟩
 obtain ⟨own4,V4,R4,s4,h4,⟨cv,q4,e4⟩,_⟩:=SD.out.postS hp
 have SE:Hid _:=h4
 have E4:Hid (s4.sc=s.sc):=by show _=_;rw[e4];cases cv.code==0 <;> rfl
 have Q4:Hid (FX s.sc a0 cv/\s4=bif cv.code==0 then s.note a0 0 5 else s):=⟨q4,e4⟩
 have sg:=h4.setN 0 (.int .i64 5)
 simp only[List.setIfInBounds_toArray,List.set_cons_zero] at sg
 have SG:Hid _:=sg
 clear hp h4 q4 e4 sg
 have n0:=Blk.at_ SE.out.nb 0 rfl
 have n1:=Blk.at_ SE.out.nb 1 rfl
 have n2:=Blk.at_ SE.out.nb 2 rfl
 have n3:=Blk.at_ SE.out.nb 3 rfl
 have n4:=Blk.at_ SE.out.nb 4 rfl
 have n5:=Blk.at_ SE.out.nb 5 rfl
 have n6:=Blk.at_ SE.out.nb 6 rfl
 have n7:=Blk.at_ SE.out.nb 7 rfl
 have nf:=Blk.free SE.out.nb
 have nz:=Blk.lt SE.out.nb
 have p9:=Blk.at_ SE.out.pb 9 rfl
 have pz:=Blk.lt SE.out.pb
 have y0:w4.cell? ⟨eb,eo,none⟩=some (.int .i64 a0):=con SE.out.ws.wk.ov Y0.out
 have zy0:=clt y0
 have npn:w.heap.size≠w.heap.size+1:=Zo
 have ebn:eb≠w.heap.size+1:=by have:=clt Y0.out;have:=SE.out.base;omega
 go_wp2_with fail
 clear n0 n1 n2 n3 n4 n5 n6 n7 nf nz p9 pz y0 zy0
 generalize w4.setCell ⟨w.heap.size+1,0,none⟩ (.int .i64 5)=wS at*
 refine (HE.out _ own4 V4 R4 _ lp rs l s4 SG.out.ws SG.out.len SG.out.at_ (SFn.of HF.out E4.out) Zo Zo ⟨hlp.1,by have:=hlp.2;omega⟩).mono ?_
 rintro e w5 ⟨x,hx,rfl,hp⟩
 obtain ⟨own5,V5,R5,s5,h5,⟨q5,e5⟩,_⟩:=SG.out.postS hp
 have SH:Hid _:=h5
 have Q5:Hid _:=q5
 have E5:Hid (s5.sc=s.sc):=e5.trans E4.out
 clear hp h5 q5 e5
 have p9:=Blk.at_ SH.out.pb 9 rfl
 have pz:=Blk.lt SH.out.pb
 have y1:w5.cell? ⟨eb,eo+1,none⟩=some (.int .i64 a1):=con SH.out.ws.wk.ov Y1.out
 have zy1:=clt y1
 go_wp2_with fail
 clear p9 pz y1 zy1
 refine (HB.out _ own5 V5 R5 _ lp rs l s5 SH.out.ws SH.out.len SH.out.at_ (SFn.of HF.out E5.out) Zo Zo ⟨hlp.1,by have:=hlp.2;omega⟩).mono ?_
 rintro e w6 ⟨y,hy,rfl,hp⟩
 obtain ⟨own6,V6,R6,s6,h6,⟨q6,e6⟩,_⟩:=SH.out.postS hp
 have SI:Hid _:=h6
 have Q6:Hid _:=q6
 have E6:Hid (s6.sc=s.sc):=e6.trans E5.out
 have sj:=h6.setN 7 (.slice (some ⟨w6.heap.size,0,none⟩) 2 2)
 simp only[List.setIfInBounds_toArray,List.set_cons_zero,List.set_cons_succ] at sj
 have SJ:Hid _:=sj.onw (Onw.alloc _ (.cells #[.int .i64 x,.int .i64 y] 3))
 have lj:=LRow.two (w6.setCell ⟨w.heap.size+1,7,none⟩ (.slice (some ⟨w6.heap.size,0,none⟩) 2 2)) (w.heap.size+2) own6 (by have:=h6.nb.lt;rw[World.size_setCell];omega) (by rw[World.size_setCell];exact h6.ws.wk.high _ (Nat.le_refl _)) x y
 rw[World.size_setCell] at lj
 have LJ:Hid _:=lj
 clear lj
 clear hp h6 q6 e6 sj
 have n0:=Blk.at_ SI.out.nb 0 rfl
 have n1:=Blk.at_ SI.out.nb 1 rfl
 have n2:=Blk.at_ SI.out.nb 2 rfl
 have n3:=Blk.at_ SI.out.nb 3 rfl
 have n4:=Blk.at_ SI.out.nb 4 rfl
 have n5:=Blk.at_ SI.out.nb 5 rfl
 have n6:=Blk.at_ SI.out.nb 6 rfl
 have n7:=Blk.at_ SI.out.nb 7 rfl
 have nf:=Blk.free SI.out.nb
 have nz:=Blk.lt SI.out.nb
 clear LJ
 go_wp2_with fail
 refine (add_ws SJ.out.ws Zo SJ.out.len ⟨⟨5,(pm i).line,0,0,0,{data:= #[]},0,fun _=>0,2,fun _=>0⟩,none,0,some ⟨w6.heap.size,0,none⟩,2⟩).mono ?_
 rintro e w9 ⟨r,hr,rfl,hp⟩
 have FIN:Hid _:=SJ.out.fin (r:=r) hp (B2:=B+4000*sz i) Zo (Q:=fun s'=>Rel (pdOf pm) FX l (lp l) (rs l) i s s'/\Adds s s' l) ⟨by refine relC.if_ HKK.out (c:=cv) (by rw[show (pdOf pm i).kd 0=(a0:Int) from A0.out];exact Q4.out.1) ?_;rw[show (pdOf pm i).kd 0=(a0:Int) from A0.out,<-Q4.out.2];show SeqR _ _ _ _ _ (pm i).kd (pm i).nk _ _;rw[HNK.out];exact relC.ssnoc (relC.ssnoc relC.snil (by rw[A0.out];exact Q5.out)) (by rw[A1.out];exact Q6.out),Adds.of E6.out⟩
 exact J22
end Go.Proofs.YtlibofjbhhdjdaaGreat
