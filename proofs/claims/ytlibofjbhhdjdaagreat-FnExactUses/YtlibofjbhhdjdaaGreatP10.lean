import Derived.Test.YtlibofjbhhdjdaaGreatQ
import Derived.Test.YtlibofjbhhdjdaaGreatP09
set_option linter.unusedSimpArgs false
set_option maxRecDepth 100000
set_option maxHeartbeats 16000000
namespace Go.Proofs.YtlibofjbhhdjdaaGreat
open Go.RowKit
attribute [local go_sem] rsf
variable {FX:List SNm->Nat->CV->Prop} {B i l wp:Nat} {rs:Nat->Bool} {lp:Nat->Int} {R:Nat->List (List Value)} {own sz:Nat->Nat} {pd:Nat->PD} {V:Nat->Value} {s:St} {tv:Value} {w w0:World}
def deadAt (pd:Nat->PD) (kd:Nat->Int):Nat->Bool
 |0=>false
 |c+1=>deadB (pd (kd c).toNat).kind
theorem BlkR.step {lo:Int}{re:Bool}{kd:Nat->Int}:∀{c:Nat} {s s1 s2:St},BlkR pd FX l lo re kd c s s1->Rel pd FX l lo re (kd c).toNat (bif deadAt pd kd c then s1.note (kd c) 0 4 else s1) s2->BlkR pd FX l lo re kd (c+1) s s2
 |0,_,_,_,h,k=>relC.bfirst h k
 |_+1,_,_,_,h,k=>relC.bsnoc h k
def StatOk (w0:World) (wp:Nat) (tv:Value) (pd:Nat->PD) (FX:List SNm->Nat->CV->Prop) (sz:Nat->Nat) (i:Nat):Prop:=
 ∀(w:World) (own:Nat->Nat) (V:Nat->Value) (R:Nat->List (List Value)) (B:Nat) (lp:Nat->Int) (rs:Nat->Bool) (l:Nat) (s:St),Ws w0 w wp tv own V R B lp rs->(R 2).length=l+1->s.At R->SFn s l->B+4000*sz i<=16000000->l+i<=3000->(0<=lp l/\lp l+(i:Int)<=3000)->
  Calls Tryz.prog 40 #[.pointer (some ⟨wp,0,none⟩),.int .i64 i] w fun e w'=>∃(oa:Option Addr) (n oc:Nat),n<=2/\((pd i).kind≠3->1<=n)/\e= .returned (.slice oa n oc)/\∃own' V' R' s',Ws w0 w' wp tv own' V' R' (B+4000*sz i) lp rs/\Fr own own' w w'/\St.At s' R'/\(R' 2).length=(R 2).length/\Mono R R'/\Rel pd FX l (lp l) (rs l) i s s'/\Adds s s' l/\LRow w' w.heap.size own' oa n oc
def BlockOk (w0:World) (wp:Nat) (tv:Value) (pd:Nat->PD) (FX:List SNm->Nat->CV->Prop) (sz:Nat->Nat) (i:Nat):Prop:=
 ∀(w:World) (own:Nat->Nat) (V:Nat->Value) (R:Nat->List (List Value)) (B:Nat) (lp:Nat->Int) (rs:Nat->Bool) (l:Nat) (s:St),Ws w0 w wp tv own V R B lp rs->(R 2).length=l+1->s.At R->SFn s l->B+4000*sz i<=16000000->l+i<=3000->(0<=lp l/\lp l+(i:Int)<=3000)->
  Calls Tryz.prog 25 #[.pointer (some ⟨wp,0,none⟩),.int .i64 i] w fun e w'=>∃r:Nat,r<=16777216/\e= .returned (.int .i64 r)/\PostS w0 wp tv own w R (B+4000*sz i) lp rs w' (fun s'=>Rel pd FX l (lp l) (rs l) i s s'/\s'.sc=s.sc)
theorem block_ws {np:Nat}{pm:Nat->PM}(tr:Tr w0 tv np pm sz)(hi:i < np)(hk:(pm i).kind=1)(hst:∀j,j < (pm i).nk->StatOk w0 wp tv (pdOf pm) FX sz ((pm i).kd j).toNat):BlockOk w0 wp tv (pdOf pm) FX sz i:=by
 intro w own V R B lp rs l s h hl hs hf hB hll hlp
 obtain ⟨pa,pc,htv,ha⟩:=tr.at_
 obtain ⟨pb,po,hpa,hpc⟩:=ha.1 Zo
 obtain ⟨c0,c1,c2,c3,c4,c5,c6,c7,c8,c9⟩:=(hpc i hi).onw h.wk.ov
 obtain ⟨ka,hka⟩:∃k,(pm i).ka=k:=⟨_,rfl⟩
 have hkd:IntsAt w0 ka (pm i).nk (pm i).kd:=by rw[<-hka];exact (ha.2 i hi).2
 rw[hka] at c9
 have HKD:Hid _:=hkd
 clear hkd
 have zp:=clt c0
 have b0:w.cell? ⟨wp,0,none⟩=some (.slice (some ⟨pb,po,none⟩) np pc):=Zi
 have zb:=h.blk.lt
 have i0:(0:Int)<=(i:Int):=Zo
 have i1:(i:Int) < (np:Int):=Zo
 have szi:=tr.szs i hi
 have nk2:=tr.nkl i hi
 obtain ⟨va,vc,hv1⟩:∃va vc,V 1= .slice va s.sc.length vc:=by
  rcases (h.wk.rows 1 Zo Zo).row.2 with ⟨e1,e2⟩|⟨g,cap,cur,e1,_⟩
  ·exact ⟨none,0,by rw[e1];rw[hs.r1,List.length_map] at e2;rw[e2]⟩
  ·exact ⟨some ⟨g,0,none⟩,cap,by rw[e1,hs.r1,List.length_map]⟩
 have b1:w.cell? ⟨wp,1,none⟩=some (.slice va s.sc.length vc):=by rw[h.blk.cell,<-hv1];rfl
 have HH:Hid _:=h
 have HL:Hid _:=hl
 have HS:Hid _:=hs
 have HF:Hid _:=hf
 have HE:Hid _:=hst
 have HT:Hid _:=tr
 have HA:Hid _:=ha
 have HTV:Hid _:=htv
 have HKK:Hid _:=hk
 have o0:Hid (own w.heap.size=0):=h.wk.high _ (Nat.le_refl _)
 have PB:=Blk.new w 67 #[.int .i64 (pm i).kind,.int .i64 (pm i).frm,.int .i64 (pm i).tto,.int .i64 (pm i).line,.int .i64 (pm i).op,.int .i64 (pm i).num,.float .f64 (pm i).flt,.string (pm i).text,.slice (pm i).na (pm i).nn (pm i).nc,.slice ka (pm i).nk (pm i).kc]
 have OA:Hid (Onw w (w.alloc (Obj.cells #[.int .i64 (pm i).kind,.int .i64 (pm i).frm,.int .i64 (pm i).tto,.int .i64 (pm i).line,.int .i64 (pm i).op,.int .i64 (pm i).num,.float .f64 (pm i).flt,.string (pm i).text,.slice (pm i).na (pm i).nn (pm i).nc,.slice ka (pm i).nk (pm i).kc] 67))):=Onw.alloc w _
 have HW:Hid _:=h.onw OA.out
 have HPC:Hid _:=hpc
 clear h hl hs hf hst tr ha htv hv1 hk hpc hka
 go_enter Tryz.func25,Tryz.ntmps25
 go_wp2_with fail
 generalize w.alloc (Obj.cells #[.int .i64 (pm i).kind,.int .i64 (pm i).frm,.int .i64 (pm i).tto,.int .i64 (pm i).line,.int .i64 (pm i).op,.int .i64 (pm i).num,.float .f64 (pm i).flt,.string (pm i).text,.slice (pm i).na (pm i).nn (pm i).nc,.slice ka (pm i).nk (pm i).kc] 67)=wA at*
 go_loopw [7,8,30] (fun kv dv x wr=>∃(j:Nat) (own1:Nat->Nat) (V1:Nat->Value) (R1:Nat->List (List Value)) (s1:St) (ka':Option Addr) (kn kc':Nat),j<=(pm i).nk/\x= .int .i64 j/\dv= .bool (deadAt (pdOf pm) (pm i).kd j)/\kv= .slice ka' kn kc'/\kn<=2*j/\Ws w0 wr wp tv own1 V1 R1 (B+4000*psum sz (pm i).kd j+j) lp rs/\Fr own own1 w wr/\St.At s1 R1/\(R1 2).length=l+1/\Mono R R1/\BlkR (pdOf pm) FX l (lp l) (rs l) (pm i).kd j s s1/\Adds s s1 l/\LRow wr (w.heap.size+1) own1 ka' kn kc'/\Blk wr w.heap.size 67 #[.int .i64 (pm i).kind,.int .i64 (pm i).frm,.int .i64 (pm i).tto,.int .i64 (pm i).line,.int .i64 (pm i).op,.int .i64 (pm i).num,.float .f64 (pm i).flt,.string (pm i).text,.slice (pm i).na (pm i).nn (pm i).nc,.slice ka (pm i).nk (pm i).kc]/\own1 w.heap.size=0) (fun _ _ x _=>(pm i).nk-(intOf x).toNat)
 case atStart=>exact ⟨0,own,V,R,s,none,0,0,Nat.zero_le _,rfl,rfl,rfl,Nat.zero_le _,HW.out.more (Nat.le_refl _),Fr.onw OA.out,HS.out,HL.out,Mono.refl _,relC.bnil,Adds.refl _ _,LRow.nil _ _ _,PB,o0.out⟩
 case round=>
  obtain ⟨j,own1,V1,R1,s1,ka',kn,kc',hj,rfl,rfl,rfl,hkn,h1,fr1,at1,l1,mo1,bl1,ad1,lr1,pb1,op1⟩:=hrel
  have H1:Hid _:=h1
  have FR1:Hid _:=fr1
  have AT1:Hid _:=at1
  have L1:Hid _:=l1
  have MO1:Hid _:=mo1
  have BL1:Hid _:=bl1
  have AD1:Hid _:=ad1
  have LR1:Hid _:=lr1
  have PB1:Hid _:=pb1
  have OP1:Hid _:=op1
  clear h1 fr1 at1 l1 mo1 bl1 ad1 lr1 pb1 op1 PB HW
  by_cases hlt:j < (pm i).nk
  ·obtain ⟨nb,no,hna,hcc⟩:=HKD.out Zo
   obtain ⟨q,hq⟩:∃q:Nat,(pm i).kd j=q:=⟨((pm i).kd j).toNat,by have:=(HT.out.kid i hi j hlt).1;omega⟩
   have hqi:q < i:=J313
   have x0:=con H1.out.wk.ov (hcc j hlt)
   rw[hq] at x0
   have zx:=clt x0
   subst hna
   have HQ:Hid _:=hq
   have qn:Hid (((pm i).kd j).toNat=q):=by show _=_;rw[hq];rfl
   clear hcc hq
   have j0:(0:Int)<=(j:Int):=Zo
   have j1:(j:Int) < ((pm i).nk:Int):=Zo
   have hps:Hid (psum sz (pm i).kd (j+1)=psum sz (pm i).kd j+sz q):=by show _=_;rw[psum,qn.out]
   have hle:Hid (psum sz (pm i).kd (j+1)<=psum sz (pm i).kd (pm i).nk):=psum_le Zo
   have hbnd:B+4000*psum sz (pm i).kd j+j+1+4000*sz q<=16000000:=J306
   obtain ⟨wo,hwo⟩:∃y,y=wr:=⟨_,rfl⟩
   subst hwo
   have B0:=H1.out.blk
   have hx:wo.ownsRow w0.heap.size 93 3 (V1 8) (R1 8).length (R1 8).flatten:=(H1.out.wk.rows 8 Zo Zo).row
   have hlen:=H1.out.lens 8 Zo Zo
   have hne:=H1.out.ne (j:=8) Zo Zo
   have hlo:=H1.out.wk.ov.size
   have b8:=Blk.at_ B0 8 rfl
   have bf:=B0.free
   have zw:=B0.lt
   obtain ⟨n0,hn0,hz0,hz1,hz2⟩:=info_parts info_note
   have N:=Blk.new wo 93 #[.int .i64 q,.int .i64 0,.int .i64 4]
   go_upto_if 34 with (fail)
   go_cut [8] (fun _ wd=>∃own2 V2 R2,Ws w0 wd wp tv own2 V2 R2 (B+4000*psum sz (pm i).kd j+j+1) lp rs/\Fr own1 own2 wo wd/\St.At (bif deadAt (pdOf pm) (pm i).kd j then s1.note q 0 4 else s1) R2/\R2 2=R1 2/\R2 3=R1 3)
   case first=>
    cases hd:deadAt (pdOf pm) (pm i).kd j
    ·go_wp2_with fail
     go_meet
     case rel=>exact ⟨own1,V1,R1,H1.out.more Zo,Fr.refl _ _,by rw[hd];exact AT1.out,rfl,rfl⟩
    ·go_wp2_with (first|(at_builtin;refine wpList_app _ rfl (.tmp 39) (.tmp 42) 49 rfl w0.heap.size 93 n0 _ 3 24 Tryz.underlying49 hn0 hz0 hz1 hz2 rfl Zb (V1 8) (R1 8).length (R1 8).flatten rfl (hx.alloc _) ⟨wo.heap.size,0,none⟩ 1 1 [.int .i64 q,.int .i64 0,.int .i64 4] rfl rfl (fun j u hj=>by rw[Go.WideShapes.add_plain,N.cell,Nat.zero_add];simpa using hj) J262 Zb Zm Zo Zj ?_;intro g cap w' hown hgrow hwhere;have B2:=(hgrow.block wp Zj (fun e=>hne e.symm)).trans (B0.onw (Onw.alloc _ _));have bf2:=Blk.free B2;have b82:w'.cell? ⟨wp,8,none⟩=some (V1 8):=by rw[Blk.cell B2];rfl))
     go_meet
     case rel=>
      obtain ⟨p1,p2⟩:=H1.out.push (j:=8) Zo Zo Zo (x:= [.int .i64 q,.int .i64 0,.int .i64 4]) rfl (Onw.alloc _ _) hown hgrow hwhere
      exact ⟨_,_,_,p1,p2,by rw[hd];exact AT1.out.note _ _ _,rfl,rfl⟩
   case rest=>
    obtain ⟨own2,V2,R2,h2,fr2,at2,e2,e23⟩:=hcut
    have l2:(R2 2).length=l+1:=by rw[e2];exact L1.out
    have sf2:SFn (bif deadAt (pdOf pm) (pm i).kd j then s1.note q 0 4 else s1) l:=by
     have:=SFn.adds HF.out AD1.out
     cases deadAt (pdOf pm) (pm i).kd j <;> exact this
    have ad2:Hid (Adds s (bif deadAt (pdOf pm) (pm i).kd j then s1.note q 0 4 else s1) l):=by
     show Adds _ _ _
     have:=AD1.out
     cases deadAt (pdOf pm) (pm i).kd j <;> exact this
    have hcall:=HE.out j hlt wc own2 V2 R2 _ lp rs l _ h2 l2 at2 sf2 (by rw[qn.out];omega) (by rw[qn.out];omega) ⟨hlp.1,by rw[qn.out];have:=hlp.2;omega⟩
    rw[qn.out] at hcall
    have FR2:Hid (Fr own own2 w wc):=FR1.out.trans fr2
    have LR2:Hid _:=LRow.fr LR1.out fr2
    have PB2:Hid (Blk wc w.heap.size 67 #[.int .i64 (pm i).kind,.int .i64 (pm i).frm,.int .i64 (pm i).tto,.int .i64 (pm i).line,.int .i64 (pm i).op,.int .i64 (pm i).num,.float .f64 (pm i).flt,.string (pm i).text,.slice (pm i).na (pm i).nn (pm i).nc,.slice (some ⟨nb,no,none⟩) (pm i).nk (pm i).kc]):=(fr2.kept _ ⟨Blk.lt PB1.out,OP1.out⟩).trans PB1.out
    have OP2:Hid (own2 w.heap.size=0):=by show _=_;rw[fr2.tags _ (Blk.lt PB1.out)];exact OP1.out
    have MO2:Hid (Mono R R2):=Mono.trans MO1.out (L1.out.trans HL.out.symm) (fun k hk=>by unfold nlen;rw[e2,e23];exact ⟨Nat.le_refl _,Nat.le_refl _,Nat.le_refl _⟩)
    have E2:Hid ((R2 2).length=(R 2).length):=l2.trans HL.out.symm
    have NSW:Hid (Fr own1 own2 wo wc):=fr2
    clear h2 fr2 at2 e2 e23 l2 sf2 B0 hx hlen hne hlo b8 bf zw hn0 hz0 hz1 hz2 N x0 zx
    obtain ⟨wd,hwd⟩:∃y,y=wc:=⟨_,rfl⟩
    subst hwd
    go_wp2_with fail
    refine hcall.mono ?_
    rintro e w5 ⟨oa,n,oc,hn2,hn1,rfl,own3,V3,R3,s3,h3,fr3,at3,l3,mo3,rel3,ad3,lr3⟩
    have LR3:Hid _:=LRow.fr LR2.out fr3
    have LO3:Hid _:=lr3
    have FR3:Hid (Fr own own3 w w5):=FR2.out.trans fr3
    have PB3:Hid (Blk w5 w.heap.size 67 #[.int .i64 (pm i).kind,.int .i64 (pm i).frm,.int .i64 (pm i).tto,.int .i64 (pm i).line,.int .i64 (pm i).op,.int .i64 (pm i).num,.float .f64 (pm i).flt,.string (pm i).text,.slice (pm i).na (pm i).nn (pm i).nc,.slice (some ⟨nb,no,none⟩) (pm i).nk (pm i).kc]):=(fr3.kept _ ⟨Blk.lt PB2.out,OP2.out⟩).trans PB2.out
    have OP3:Hid (own3 w.heap.size=0):=by show _=_;rw[fr3.tags _ (Blk.lt PB2.out)];exact OP2.out
    have H3:Hid _:=h3
    have AT3:Hid _:=at3
    have L3:Hid ((R3 2).length=l+1):=l3.trans (E2.out.trans HL.out)
    have MO3:Hid (Mono R R3):=Mono.trans MO2.out E2.out mo3
    have BL3:Hid (BlkR (pdOf pm) FX l (lp l) (rs l) (pm i).kd (j+1) s s3):=BlkR.step BL1.out (by rw[qn.out,HQ.out];exact rel3)
    have AD3:Hid (Adds s s3 l):=ad2.out.trans ad3
    have zd3:Hid (wd.heap.size<=w5.heap.size):=fr3.size
    have zwd:Hid (w.heap.size<=wd.heap.size):=FR2.out.size
    have lt2:Hid (∀g,(Value.slice ka' kn kc').ownBlock=some g->g < wd.heap.size):=by
     obtain ⟨ol,r1,_,_⟩:=LR2.out
     exact fun g hg=>(r1.row.lt g hg).2
    clear hcall h3 fr3 at3 l3 mo3 rel3 ad3 lr3 hn1
    go_wp2_with fail
    go_loopw [7,50] (fun kv y wq=>∃(u:Nat) (ka2:Option Addr) (kc2:Nat),u<=n/\y= .int .i64 u/\kv= .slice ka2 (kn+u:Nat) kc2/\Ws w0 wq wp tv own3 V3 R3 (B+4000*psum sz (pm i).kd j+j+1+4000*sz q) lp rs/\Fr own own3 w wq/\LRow wq (w.heap.size+1) own3 ka2 (kn+u) kc2/\(∀g,(Value.slice ka2 (kn+u:Nat) kc2).ownBlock=some g->g < wd.heap.size\/w5.heap.size<=g)/\Blk wq w.heap.size 67 #[.int .i64 (pm i).kind,.int .i64 (pm i).frm,.int .i64 (pm i).tto,.int .i64 (pm i).line,.int .i64 (pm i).op,.int .i64 (pm i).num,.float .f64 (pm i).flt,.string (pm i).text,.slice (pm i).na (pm i).nn (pm i).nc,.slice (some ⟨nb,no,none⟩) (pm i).nk (pm i).kc]/\Kept (fun k=>wd.heap.size<=k/\k < w5.heap.size) w5 wq/\w5.heap.size<=wq.heap.size) (fun _ y _=>n-(intOf y).toNat)
    case atStart=>exact ⟨0,ka',kc',Nat.zero_le _,rfl,rfl,H3.out,FR3.out,LR3.out,fun g hg=>Or.inl (lt2.out g hg),PB3.out,Kept.refl _ _,Nat.le_refl _⟩
    case round=>
     obtain ⟨u,ka2,kc2,hu,rfl,rfl,g1,g2,g3,g4,g5,g6,g7⟩:=hrel
     have G1:Hid _:=g1
     have G2:Hid _:=g2
     have G3:Hid _:=g3
     have G4:Hid _:=g4
     have G5:Hid _:=g5
     have G6:Hid _:=g6
     clear g1 g2 g3 g4 g5 g6
     by_cases hun:u < n
     ·obtain ⟨ob,qv,hoa,hob,hoo,hoc,hcell⟩:=LRow.cell LO3.out hun
      subst hoa
      have zob:=clt hcell
      have y0:wr.cell? ⟨ob,u,none⟩=some (.int .i64 qv):=by
       rw[<-hcell];exact World.cell?_of_block (a:=⟨ob,u,none⟩) (G6.out ob ⟨hob,zob⟩)
      have zy:=clt y0
      have u0:(0:Int)<=(u:Int):=Zo
      have u1:(u:Int) < (n:Int):=Zo
      obtain ⟨ol,r1,r2,r3⟩:=G3.out
      have R1':Hid _:=r1
      have R2':Hid _:=r2
      have R3':Hid _:=r3
      have hxo:=r1.row
      rw[r2] at hxo
      obtain ⟨i2,hi2,hy0,hy1,hy2⟩:=info_parts info_int
      have N:=Blk.new wr 3 #[.int .i64 qv]
      have hszw:w.heap.size+1<=wr.heap.size:=Blk.lt G5.out
      clear r1 r2 r3 hcell hoc
      go_wp2_with (first|(at_builtin;refine wpList_app _ rfl (.tmp 54) (.tmp 56) 64 rfl (w.heap.size+1) 3 i2 _ 1 8 Tryz.underlying64 hi2 hy0 hy1 hy2 rfl Zb (.slice ka2 (kn+u:Nat) kc2) (kn+u) ol.flatten rfl (World.ownsRow.alloc hxo _) ⟨wr.heap.size,0,none⟩ 1 1 [.int .i64 qv] rfl rfl (fun j u hj=>by rw[Go.WideShapes.add_plain,N.cell,Nat.zero_add];simpa using hj) J262 Zb Zm Zo Zj ?_;intro g10 cap10 w10 hown hgrow hwhere))
      go_roundw
      case rel=>
       have hrow:∀x,(Value.slice ka2 (kn+u:Nat) kc2).ownBlock=some x->own3 x=0/\w.heap.size+1<=x:=fun x hx=>⟨R1'.out.mine x hx,(R1'.out.row.lt x hx).1⟩
       have hlo':w0.heap.size<=w.heap.size:=HH.out.wk.ov.size
       have hgs:=hgrow.size
       simp only[World.size_alloc] at hgs
       have hpw:w.heap.size < wr.heap.size:=Blk.lt G5.out
       have nrow:∀x,(Value.slice ka2 (kn+u:Nat) kc2).ownBlock=some x->x≠w.heap.size:=fun x hx e=>by have:=(hrow x hx).2;omega
       refine ⟨u+1,some ⟨g10,0,none⟩,cap10,by omega,by go_num,rfl,?_,?_,⟨ol++ [[.int .i64 qv]],R1'.out.app R2'.out rfl G1.out.wk.high (Onw.alloc _ _) hown hwhere,by rw[List.length_append,R2'.out];rfl,fun y hy=>(List.mem_append.1 hy).elim (R3'.out y) (fun h=>⟨_,List.mem_singleton.1 h⟩)⟩,?_,?_,?_,by omega⟩
       ·exact (G1.out.loc (Onw.alloc _ _) hgrow (fun x hx=>⟨(hrow x hx).1,by have:=(hrow x hx).2;omega⟩))
       ·refine ⟨by omega,G2.out.tags,fun k hk=>?_⟩
        exact (hgrow.block k J285 (fun e=>by have:=(hrow k e.symm).2;omega)).trans ((heap_alloc_old wr _ (show k < wr.heap.size by omega)).trans (G2.out.kept k hk))
       ·intro g hg
        obtain rfl:g10=g:=by simpa[Value.ownBlock] using hg
        rcases hwhere with e|e
        ·exact G4.out g10 e
        ·simp only[World.size_alloc] at e;exact Or.inr Zo
       ·exact (hgrow.block w.heap.size J285 (fun e=>nrow _ e.symm rfl)).trans ((heap_alloc_old wr _ hpw).trans G5.out)
       ·intro k hk
        exact (hgrow.block k J285 (fun e=>by have:=G4.out k e.symm;omega)).trans ((heap_alloc_old wr _ Zo).trans (G6.out k hk))
      case measure=>simp[intOf];omega
     ·obtain rfl:u=n:=Zo
      have b0':wr.cell? ⟨wp,0,none⟩=some (.slice (some ⟨pb,po,none⟩) np pc):=by rw[G1.out.blk.cell,<-hpa,<-HTV.out];rfl
      have zb':=G1.out.blk.lt
      have c0':=con G1.out.wk.ov (HPC.out q Zo).c0
      have zc':=clt c0'
      have q0:(0:Int)<=(q:Int):=Zo
      have q1:(q:Int) < (np:Int):=Zo
      have hd:Hid (deadAt (pdOf pm) (pm i).kd (j+1)=((pm q).kind==13||(pm q).kind==11||(pm q).kind==12||(pm q).kind==15)):=by
       show deadB (pdOf pm ((pm i).kd j).toNat).kind=_
       rw[qn.out];rfl
      have fin:Hid (∀X,X=((pm q).kind==13||(pm q).kind==11||(pm q).kind==12||(pm q).kind==15)->∃(j':Nat) (own1:Nat->Nat) (V1:Nat->Value) (R1:Nat->List (List Value)) (s1:St) (ka':Option Addr) (kn' kc':Nat),j'<=(pm i).nk/\Value.int .i64 ((j:Int)+1)= .int .i64 j'/\Value.bool X= .bool (deadAt (pdOf pm) (pm i).kd j')/\Value.slice ka2 (kn+u:Nat) kc2= .slice ka' kn' kc'/\kn'<=2*j'/\Ws w0 wr wp tv own1 V1 R1 (B+4000*psum sz (pm i).kd j'+j') lp rs/\Fr own own1 w wr/\St.At s1 R1/\(R1 2).length=l+1/\Mono R R1/\BlkR (pdOf pm) FX l (lp l) (rs l) (pm i).kd j' s s1/\Adds s s1 l/\LRow wr (w.heap.size+1) own1 ka' kn' kc'/\Blk wr w.heap.size 67 #[.int .i64 (pm i).kind,.int .i64 (pm i).frm,.int .i64 (pm i).tto,.int .i64 (pm i).line,.int .i64 (pm i).op,.int .i64 (pm i).num,.float .f64 (pm i).flt,.string (pm i).text,.slice (pm i).na (pm i).nn (pm i).nc,.slice (some ⟨nb,no,none⟩) (pm i).nk (pm i).kc]/\own1 w.heap.size=0):=fun X hX=>⟨j+1,own3,V3,R3,s3,ka2,kn+u,kc2,by omega,by go_num,by rw[hd.out,hX],rfl,by omega,G1.out.more (by have:=hps.out;omega),G2.out,AT3.out,L3.out,MO3.out,BL3.out,AD3.out,G3.out,G5.out,OP3.out⟩
      cases k13:((pm q).kind==13)
      ·cases k11:((pm q).kind==11)
       ·cases k12:((pm q).kind==12)
        ·cases k15:((pm q).kind==15)
         ·exact J116
         ·exact J116
        ·go_wp2_with fail
         go_roundw
         case rel=>exact fin.out _ (by rw[k13,k11,k12];rfl)
         case measure=>simp[intOf];omega
       ·go_wp2_with fail
        go_roundw
        case rel=>exact fin.out _ (by rw[k13,k11];rfl)
        case measure=>simp[intOf];omega
      ·go_wp2_with fail
       go_roundw
       case rel=>exact fin.out _ (by rw[k13];rfl)
       case measure=>simp[intOf];omega
  ·obtain rfl:j=(pm i).nk:=Zo
   have b1':=Blk.at_ H1.out.blk 1 rfl
   have bf:=H1.out.blk.free
   have zw:=H1.out.blk.lt
   have hsl:=H1.out.slice (j:=1) Zo Zo
   have hr1:Hid ((R1 1).length=s1.sc.length):=by show _=_;rw[AT1.out.r1,List.length_map]
   have hle:Hid (s.sc.length<=s1.sc.length):=by show _<=_;obtain ⟨t,e,_⟩:=AD1.out;rw[e,List.length_append];omega
   go_upto_region 18 with (fail)
   go_cut [6] (fun _ wd=>∃V2 R2,Ws w0 wd wp tv own1 V2 R2 (B+4000*psum sz (pm i).kd (pm i).nk+(pm i).nk) lp rs/\Fr own1 own1 wr wd/\St.At (s1.cut s.sc.length) R2/\R2 2=R1 2/\R2 3=R1 3)
   case first=>
    rcases hsl with ⟨hv,hl0⟩|⟨g,cap,hv,hnc,hgb⟩
    ·have hz:s.sc.length=0:=J263
     rw[hv] at b1'
     have HV:Hid _:=hv
     have HZ:Hid _:=hz
     clear hv hl0
     simp only[hz]
     clear hz
     go_wp2_with fail
     go_meet
     case rel=>
      obtain ⟨p1,p2⟩:=H1.out.cutR (j:=1) (m:=0) Zo Zo Zo HV.out (Nat.zero_le _)
      rw[HZ.out]
      exact ⟨_,_,p1,p2,AT1.out.cut 0,rfl,rfl⟩
    ·rw[hv] at b1'
     have HV:Hid _:=hv
     have m0:(0:Int)<=(s.sc.length:Int):=Zo
     have m1:(s.sc.length:Int)<=(cap:Int):=J263
     have HM:Hid (s.sc.length<=(R1 1).length):=by show _<=_;rw[hr1.out];exact hle.out
     clear hv hnc
     go_wp2_with fail
     go_meet
     case rel=>
      obtain ⟨p1,p2⟩:=H1.out.cutR (j:=1) (m:=s.sc.length) Zo Zo Zo HV.out HM.out
      exact ⟨_,_,p1,p2,AT1.out.cut _,rfl,rfl⟩
   case rest=>
    obtain ⟨V2,R2,h2,fr2,at2,e2,e23⟩:=hcut
    have PB2:=(fr2.kept _ ⟨Blk.lt PB1.out,OP1.out⟩).trans PB1.out
    have p3:=Blk.at_ PB2 3 rfl
    have zp2:=Blk.lt PB2
    have H2:Hid _:=h2
    have FR2:Hid _:=fr2
    have AT2:Hid _:=at2
    have L2:Hid ((R2 2).length=l+1):=by show _=_;rw[e2];exact L1.out
    have M2:Hid (Mono R R2):=fun k hk=>by have:=MO1.out k hk;unfold nlen at this ⊢;rw[e2,e23];exact this
    clear h2 fr2 at2 e2 e23 PB2 b1' bf zw hsl
    go_wp2_with fail
    refine (add_ws H2.out Zo L2.out ⟨⟨1,(pm i).line,0,0,0,{data:= #[]},0,fun _=>0,kn,fun _=>0⟩,none,0,ka',kc'⟩).mono ?_
    rintro e w9 ⟨r,hr,rfl,own9,V9,R9,h9,fr9,sr9⟩
    have P:Hid (PostS w0 wp tv own w R (B+4000*sz i) lp rs w9 (fun s'=>Rel (pdOf pm) FX l (lp l) (rs l) i s s'/\s'.sc=s.sc)):=⟨own9,V9,R9,s1.cut s.sc.length,h9.more Zo,(FR1.out.trans FR2.out).trans fr9,AT2.out.same sr9,by rw[sr9.len,L2.out,HL.out],Mono.trans M2.out (L2.out.trans HL.out.symm) sr9.mono,relC.block HKK.out BL1.out,Adds.cut AD1.out⟩
    clear h9 fr9 sr9
    exact J71
theorem mono_set8 {k:Nat}{cells:List Value}{v:Value}(hk:(R 2)[k]?= some cells):Mono R (fun j=>if j=2 then (R 2).set k (cells.set 8 v) else R j):=by
 intro i hi
 unfold nlen
 simp only[if_true]
 by_cases e:k=i
 ·subst e
  rw[List.getElem?_set_self hi,hk]
  simp only[Option.bind_some]
  rw[List.getElem?_set_ne Zo,List.getElem?_set_ne Zo]
  exact ⟨Nat.le_refl _,Nat.le_refl _,Nat.le_refl _⟩
 ·exact J200
theorem Ws.loops {lp lp':Nat->Int}(h:Ws w0 w wp tv own V R B lp rs)(hl:(R 2).length=l+1){g cap:Nat}(hv2:V 2= .slice (some ⟨g,0,none⟩) (l+1:Nat) cap)(hlp:∀k,k≠l->lp' k=lp k):
  w.cell? ⟨g,l*9+8,none⟩=some (.int .i64 (lp l))/\w.frozen? ⟨g,l*9+8,none⟩=false/\∃R',Ws w0 (w.setCell ⟨g,l*9+8,none⟩ (.int .i64 (lp' l))) wp tv own V R' B lp' rs/\Fr own own w (w.setCell ⟨g,l*9+8,none⟩ (.int .i64 (lp' l)))/\(∀j,j≠2->R' j=R j)/\(R' 2).length=(R 2).length/\Mono R R':=by
 obtain ⟨g',cap',cells,hv,hnc,ho,hk,hcl,hL,hcc,hfz⟩:=h.level (k:=l) Zo
 have hg':g'=g:=Ze
 subst hg'
 obtain ⟨num,nam,ln,pr,vv,uv,nv,vls,us,ns,hcells,rv,ru,rn,hus,lv,lu,lnn⟩:=hL
 have c8:w.cell? ⟨g',l*9+8,none⟩=some (.int .i64 (lp l)):=by rw[hcc 8 Zo,hcells];rfl
 obtain ⟨p1,p2⟩:=h.setL (k:=l) (g:=g') (cap:=cap') (c:=8) (B':=B) (lp':=lp') (own':=own) (v:= .int .i64 (lp' l)) hk hv Zo (Nat.le_refl _) (Onw.refl w) none ⟨rfl,rfl,rfl,Nat.le_refl _,fun _ _ _=>rfl⟩ (fun x hx=>by cases hx) (fun _ _=>rfl) h.wk.high hlp
  (by
   rw[hcells]
   have K:∀{id e z v els},RowAt w w0.heap.size own id e z v els->id≠3->RowAt (w.setCell ⟨g',l*9+8,none⟩ (.int .i64 (lp' l))) w0.heap.size own id e z v els:=fun r hne=>r.kept (p:=fun y=>y≠g') (fun y hy=>ksc w g' (l*9+8) _ y hy) (fun y hy e=>by have:=r.mine y hy;rw[e,ho] at this;exact hne this.symm) (fun _ _=>rfl)
   exact ⟨num,nam,ln,pr,vv,uv,nv,vls,us,ns,by simp,K rv Zo,K ru Zo,K rn Zo,hus,lv,lu,lnn⟩)
 exact ⟨c8,hfz _,_,p1,p2,fun j hj=>if_neg hj,by simp,mono_set8 hk⟩
theorem St.At.rows {R R':Nat->List (List Value)}(h:s.At R)(e:∀j,j≠2->j≠3->R' j=R j):s.At R':=
 ⟨by rw[e 1 Zo Zo];exact h.r1,by rw[e 4 Zo Zo];exact h.r4,by rw[e 5 Zo Zo];exact h.r5,by rw[e 6 Zo Zo];exact h.r6,by rw[e 7 Zo Zo];exact h.r7,by rw[e 8 Zo Zo];exact h.r8,by rw[e 9 Zo Zo];exact h.r9,by rw[e 10 Zo Zo];exact h.r10,by rw[e 11 Zo Zo];exact h.r11⟩
theorem loop_ws (h:Ws w0 w wp tv own V R B lp rs)(hl:(R 2).length=l+1)(hs:s.At R)(hf:SFn s l)(hB:B+4000*sz i<=16000000)(hll:l+i<=3000)(hlo:0<=lp l/\lp l+1+(i:Int)<=3000)(hbl:BlockOk w0 wp tv pd FX sz i):
  Calls Tryz.prog 66 #[.pointer (some ⟨wp,0,none⟩),.int .i64 i] w fun e w'=>∃r:Nat,r<=16777216/\e= .returned (.int .i64 r)/\PostS w0 wp tv own w R (B+4000*sz i) lp rs w' (fun s'=>Rel pd FX l (lp l+1) (rs l) i s s'/\s'.sc=s.sc):=by
 have HH:Hid _:=h
 have HL:Hid _:=hl
 have HS:Hid _:=hs
 have HF:Hid _:=hf
 have HE:Hid _:=hbl
 have hlb:l+1<=16777216:=Zo
 clear h hl hs hf hbl
 go_enter Tryz.func66,Tryz.ntmps66
 go_wp2_with fail
 obtain ⟨g,cap,hv2,hcall⟩:=fn_wk HH.out.wk l HL.out hlb
 refine hcall.mono ?_
 rintro e w1 ⟨rfl,o1⟩
 have h1:=HH.out.onw o1
 obtain ⟨c8,f8,R1,p1,p2,p3,p4,p5⟩:=h1.loops (lp':=fun k=>if k=l then lp l+1 else lp k) HL.out hv2 (fun k hk=>if_neg hk)
 have el:(fun k=>if k=l then lp l+1 else lp k) l=lp l+1:=if_pos rfl
 simp only[if_true] at p1 p2
 have zg:=clt c8
 have l0:=hlo.1
 have l1:lp l+1+(i:Int)<=3000:=hlo.2
 have L1:Hid ((R1 2).length=l+1):=p4.trans HL.out
 have hcall:=HE.out _ own V R1 B (fun k=>if k=l then lp l+1 else lp k) rs l s p1 L1.out (HS.out.rows (fun j h2 _=>p3 j h2)) HF.out hB hll ⟨by simp only[if_true];omega,by simp only[if_true];omega⟩
 simp only[if_true] at hcall
 have FR1:Hid (Fr own own w _):=(Fr.onw o1).trans p2
 have MO1:Hid (Mono R R1):=p5
 clear h1 p1 p2 p3 p4 p5 o1 hv2
 go_wp2_with fail
 refine hcall.mono ?_
 rintro e w2 ⟨r,hr,rfl,own2,V2,R2,s2,h2,fr2,at2,l2,mo2,rel2,e2⟩
 have L2:Hid ((R2 2).length=l+1):=l2.trans L1.out
 have H2:Hid _:=h2
 have FR2:Hid (Fr own own2 w w2):=FR1.out.trans fr2
 have AT2:Hid _:=at2
 have MO2:Hid (Mono R R2):=Mono.trans MO1.out (L1.out.trans HL.out.symm) mo2
 have RE2:Hid _:=rel2
 have E2:Hid _:=e2
 clear hcall h2 fr2 at2 l2 mo2 rel2 e2 c8 f8 zg
 go_wp2_with fail
 obtain ⟨g3,cap3,hv3,hcall3⟩:=fn_wk H2.out.wk l L2.out hlb
 refine hcall3.mono ?_
 rintro e w3 ⟨rfl,o3⟩
 have h3:=H2.out.onw o3
 obtain ⟨c8,f8,R3,p1,p2,p3,p4,p5⟩:=h3.loops (lp':=lp) L2.out hv3 (fun k hk=>(if_neg hk).symm)
 simp only[if_true] at c8
 have zg:=clt c8
 have P:Hid (PostS w0 wp tv own w R (B+4000*sz i) lp rs (w3.setCell ⟨g3,l*9+8,none⟩ (.int .i64 (lp l))) (fun s'=>Rel pd FX l (lp l+1) (rs l) i s s'/\s'.sc=s.sc)):=⟨own2,V2,R3,s2,p1,(FR2.out.trans (Fr.onw o3)).trans p2,AT2.out.rows (fun j h2 _=>p3 j h2),by rw[p4,L2.out,HL.out],Mono.trans MO2.out (L2.out.trans HL.out.symm) p5,RE2.out,E2.out⟩
 clear hcall3 h3 p1 p2 p3 p4 p5 o3 hv3
 have l2:(0:Int)<=lp l:=l0
 go_wp2_with fail
 go_ret
 exact ⟨r,by omega,rfl,by simpa using P.out⟩
end Go.Proofs.YtlibofjbhhdjdaaGreat
