import Derived.Test.YtlibofjbhhdjdaaGreatQ
import Derived.Test.YtlibofjbhhdjdaaGreatP13
set_option linter.unusedSimpArgs false
set_option maxRecDepth 100000
set_option maxHeartbeats 16000000
namespace Go.Proofs.YtlibofjbhhdjdaaGreat
open Go.RowKit
attribute [local go_sem] rsf
theorem mono_open {R R2:Nat->List (List Value)}{x:List Value}(e:R2 2=R 2++ [x])(e3:(R 3).length<=(R2 3).length):Mono R R2:=fun k hk=>by
 unfold nlen;rw[e,List.getElem?_append_left hk];exact ⟨Nat.le_refl _,Nat.le_refl _,e3⟩
theorem mono_close {R R2 R3:Nat->List (List Value)}{m:Nat}(e:R3 2=(R2 2).take m)(e3:R3 3=R2 3)(hm:(R 2).length<=m)(h:Mono R R2):Mono R R3:=fun k hk=>by
 have:=h k hk
 unfold nlen at this ⊢
 rw[e,e3,List.getElem?_take,if_pos Zo];exact this
theorem wrap_nat {n:Nat}(h:n<=3001):IntKind.i64.wrap (n:Int)=(n:Int):=by
 exact J214
theorem declR_3 (R:Nat->List (List Value))(f:Nat->SNm)(n:Nat)(part:Int)(nm:Nat->ByteArray)(l:Nat)(vs:Nat->Int):∀c,declR R f n part nm l vs c 3=R 3
 |0=>rfl
 |c+1=>by
  rw[declR]
  show noteR _ _ _ 3=_
  unfold noteR
  cases shadowB (declF f n part nm l vs c) (n+c) (l+1) part (nm c)
  ·exact declR_3 R f n part nm l vs c
  ·exact declR_3 R f n part nm l vs c
theorem body_ws {w0:World}{wp:Nat}{tv:Value}{FX:List SNm->Nat->CV->Prop}{sz:Nat->Nat}{np:Nat}{pm:Nat->PM}(tr:Tr w0 tv np pm sz){i:Nat}(hi:i < np)(hk:(pm i).kind=36)(hnk:(pm i).nk=1)(hbl:BlockOk w0 wp tv (pdOf pm) FX sz ((pm i).kd 0).toNat):BodyOk w0 wp tv (pdOf pm) FX sz i:=by
 intro name w own V R B lp rs l s h hl hs hf hB hll hlp
 obtain ⟨pa,pc,htv,ha⟩:=tr.at_
 obtain ⟨pb,po,hpa,hpc⟩:=ha.1 Zo
 obtain ⟨c0,c1,c2,c3,c4,c5,c6,c7,c8,c9⟩:=(hpc i hi).onw h.wk.ov
 obtain ⟨eb,eo,heb,hec⟩:=(ha.2 i hi).2 Zo
 rw[heb] at c9
 obtain ⟨a0,ha0⟩:∃a0:Nat,(pm i).kd 0=a0:=⟨((pm i).kd 0).toNat,by have:=(tr.kid i hi 0 Zo).1;omega⟩
 have ha1:a0 < i:=by have:=(tr.kid i hi 0 Zo).2;omega
 have y0:=hec 0 Zo
 rw[ha0,Nat.add_zero] at y0
 have hsz:sz a0+1<=sz i:=by
  exact J102
 rw[ha0,show ((a0:Int)).toNat=a0 from rfl] at hbl
 have nn2:=tr.nnl i hi
 have zc:=clt c0
 have b0:w.cell? ⟨wp,0,none⟩=some (.slice (some ⟨pb,po,none⟩) np pc):=Zi
 have zb:=h.blk.lt
 have i0:(0:Int)<=(i:Int):=Zo
 have i1:(i:Int) < (np:Int):=Zo
 obtain ⟨va,vc,hv3⟩:∃va vc,V 3= .slice va (R 3).length vc:=by
  rcases h.slice (j:=3) Zo Zo with ⟨e,e2⟩|⟨g,cap,e,_⟩
  ·exact ⟨_,_,by rw[e,e2]⟩
  ·exact ⟨_,_,e⟩
 obtain ⟨sa,sc',hv1⟩:∃va vc,V 1= .slice va s.sc.length vc:=by
  exact J126
 have b3:w.cell? ⟨wp,3,none⟩=some (.slice va (R 3).length vc):=by rw[h.blk.cell,<-hv3];rfl
 have hx:w.ownsRow w0.heap.size 73 7 (V 3) (R 3).length (R 3).flatten:=(h.wk.rows 3 Zo Zo).row
 have hlen:=h.lens 3 Zo Zo
 have hne:=h.ne (j:=3) Zo Zo
 rw[hv3] at hx hne
 have B0:=h.blk
 have bf:=B0.free
 have hlo:=h.wk.ov.size
 have HV3:Hid _:=hv3
 have HV1:Hid _:=hv1
 have HH:Hid _:=h
 have HL:Hid _:=hl
 have HS:Hid _:=hs
 have HF:Hid _:=hf
 have HE:Hid _:=hbl
 have HT:Hid _:=tr
 have HA:Hid _:=ha
 have HTV:Hid _:=htv
 have HKK:Hid _:=hk
 have A0:Hid _:=ha0
 have HNK:Hid _:=hnk
 have Y0:Hid _:=y0
 have hnm:Hid _:=(ha.2 i hi).1
 have o0:Hid (own w.heap.size=0):=h.wk.high _ (Nat.le_refl _)
 have PB:=Blk.new w 67 #[.int .i64 (pm i).kind,.int .i64 (pm i).frm,.int .i64 (pm i).tto,.int .i64 (pm i).line,.int .i64 (pm i).op,.int .i64 (pm i).num,.float .f64 (pm i).flt,.string (pm i).text,.slice (pm i).na (pm i).nn (pm i).nc,.slice (some ⟨eb,eo,none⟩) (pm i).nk (pm i).kc]
 have O1:Hid (Onw w (w.alloc (Obj.cells #[.int .i64 (pm i).kind,.int .i64 (pm i).frm,.int .i64 (pm i).tto,.int .i64 (pm i).line,.int .i64 (pm i).op,.int .i64 (pm i).num,.float .f64 (pm i).flt,.string (pm i).text,.slice (pm i).na (pm i).nn (pm i).nc,.slice (some ⟨eb,eo,none⟩) (pm i).nk (pm i).kc] 67))):=Onw.alloc w _
 have N:=Blk.new (w.alloc (Obj.cells #[.int .i64 (pm i).kind,.int .i64 (pm i).frm,.int .i64 (pm i).tto,.int .i64 (pm i).line,.int .i64 (pm i).op,.int .i64 (pm i).num,.float .f64 (pm i).flt,.string (pm i).text,.slice (pm i).na (pm i).nn (pm i).nc,.slice (some ⟨eb,eo,none⟩) (pm i).nk (pm i).kc] 67)) 73 #[.string {data:= #[]},.int .i64 0,.int .i64 0,.bool false,.slice none 0 0,.slice none 0 0,.slice none 0 0]
 rw[World.size_alloc] at N
 obtain ⟨n0,hn0,hz0,hz1,hz2⟩:=info_parts info_fn
 have kn:(0:Int) < ((pm i).nk:Int):=Zo
 clear h hl hs hf hbl tr ha hpc htv hk ha0 hnk y0 hec heb hv3 hv1 hpa
 go_enter Tryz.func62,Tryz.ntmps62
 go_wp2_with (first|(at_builtin;refine wpList_app _ rfl (.tmp 28) (.tmp 30) 45 rfl w0.heap.size 73 n0 _ 7 112 Tryz.underlying45 hn0 hz0 hz1 hz2 rfl Zb (.slice va (R 3).length vc) (R 3).length (R 3).flatten rfl ?h1 ⟨w.heap.size+1,0,none⟩ 1 1 [.string {data:= #[]},.int .i64 0,.int .i64 0,.bool false,.slice none 0 0,.slice none 0 0,.slice none 0 0] rfl rfl ?h2 ?h3 Zb ?h4 ?h5 ?h6 ?h7))
 case h1=>exact World.ownsRow.alloc (World.ownsRow.alloc hx _) _
 case h2=>exact fun j u hj=>by rw[Go.WideShapes.add_plain,Blk.cell N,Nat.zero_add];simpa using hj
 case h3=>simp[Value.oneCell']
 case h4=>simp only[maxLen];omega
 case h5=>omega
 case h6=>simp only[World.size_alloc];omega
 intro g cap w' hown hgrow hwhere
 have B2:=(hgrow.block wp J285 (fun e=>hne e.symm)).trans (Blk.onw (Onw.alloc _ _) (Blk.onw O1.out B0))
 have bf2:=Blk.free B2
 have b32:w'.cell? ⟨wp,3,none⟩=some (.slice va (R 3).length vc):=by rw[Blk.cell B2,<-HV3.out];rfl
 have b12:w'.cell? ⟨wp,1,none⟩=some (.slice sa s.sc.length sc'):=by rw[Blk.cell B2,<-HV1.out];rfl
 have zb2:=Blk.lt B2
 obtain ⟨p1,p2⟩:=HH.out.push (j:=3) Zo Zo Zo (x:= [.string {data:= #[]},.int .i64 0,.int .i64 0,.bool false,.slice none 0 0,.slice none 0 0,.slice none 0 0]) rfl (O1.out.trans (Onw.alloc _ _)) hown (by rw[HV3.out];exact hgrow) (by rw[HV3.out];simp only[World.size_alloc];exact hwhere)
 have H1:Hid _:=p1
 have F1:Hid _:=p2
 have nPw:w.heap.size≠wp:=Zo
 have PB1:Hid (Blk (w'.setCell ⟨wp,3,none⟩ (.slice (some ⟨g,0,none⟩) ((R 3).length+1:Nat) cap)) w.heap.size 67 #[.int .i64 (pm i).kind,.int .i64 (pm i).frm,.int .i64 (pm i).tto,.int .i64 (pm i).line,.int .i64 (pm i).op,.int .i64 (pm i).num,.float .f64 (pm i).flt,.string (pm i).text,.slice (pm i).na (pm i).nn (pm i).nc,.slice (some ⟨eb,eo,none⟩) (pm i).nk (pm i).kc]):=Blk.far ((hgrow.block w.heap.size J285 (fun e=>by have:=(hx.lt _ e.symm).2;omega)).trans (Blk.onw (Onw.alloc _ _) PB)) nPw 3 _
 go_wp2_with fail
 have E1:Hid (pushR R 3 [.string {data:= #[]},.int .i64 0,.int .i64 0,.bool false,.slice none 0 0,.slice none 0 0,.slice none 0 0] 2=R 2):=rfl
 have AT1:Hid (s.At (pushR R 3 [.string {data:= #[]},.int .i64 0,.int .i64 0,.bool false,.slice none 0 0,.slice none 0 0,.slice none 0 0])):=HS.out.rows (fun j _ h3=>if_neg h3)
 have L1:Hid ((pushR R 3 [.string {data:= #[]},.int .i64 0,.int .i64 0,.bool false,.slice none 0 0,.slice none 0 0,.slice none 0 0] 2).length=l+1):=HL.out
 have X3:Hid ((pushR R 3 [.string {data:= #[]},.int .i64 0,.int .i64 0,.bool false,.slice none 0 0,.slice none 0 0,.slice none 0 0] 3)[(R 3).length]?= some [.string {data:= #[]},.int .i64 0,.int .i64 0,.bool false,.slice none 0 0,.slice none 0 0,.slice none 0 0]):=by
  show (R 3++ [[.string {data:= #[]},.int .i64 0,.int .i64 0,.bool false,.slice none 0 0,.slice none 0 0,.slice none 0 0]])[(R 3).length]?= _
  rw[List.getElem?_append_right (Nat.le_refl _)];simp
 have o1:Hid (bump own w.heap.size g (3+1) w.heap.size=0):=by
  show _=_
  have hgn:w.heap.size≠g:=by
   rcases hwhere with e|e
   ·have:=(hx.lt g e).2;omega
   ·omega
  unfold bump
  rw[if_neg (Nat.lt_irrefl _),if_neg hgn]
 clear hown hgrow hwhere B2 bf2 b32 b12 zb2 p1 p2 N PB c0 c1 c2 c3 c4 c5 c6 c7 c8 c9 zc b0 zb b3 hx hlen hne B0 bf hlo hn0 hz0 hz1 hz2
 generalize pushR R 3 [.string {data:= #[]},.int .i64 0,.int .i64 0,.bool false,.slice none 0 0,.slice none 0 0,.slice none 0 0]=R1 at*
 generalize setV V 3 (.slice (some ⟨g,0,none⟩) ((R 3).length+1:Nat) cap)=V1 at*
 generalize bump own w.heap.size g (3+1)=own1 at*
 generalize w'.setCell ⟨wp,3,none⟩ (.slice (some ⟨g,0,none⟩) ((R 3).length+1:Nat) cap)=wA at*
 have p3:=Blk.at_ PB1.out 3 rfl
 have p8:=Blk.at_ PB1.out 8 rfl
 have p4:=Blk.at_ PB1.out 4 rfl
 have zP:=Blk.lt PB1.out
 have B1:=H1.out.blk
 have b2:=Blk.at_ B1 2 rfl
 have bf:=B1.free
 have zw:=B1.lt
 have hx:wA.ownsRow w0.heap.size 75 9 (V1 2) (R1 2).length (R1 2).flatten:=(H1.out.wk.rows 2 Zo Zo).row
 have hlen:=H1.out.lens 2 Zo Zo
 have hne:=H1.out.ne (j:=2) Zo Zo
 have hlo:=H1.out.wk.ov.size
 have hneP:(V1 2).ownBlock≠some w.heap.size:=fun e=>by have h1:=(H1.out.wk.rows 2 Zo Zo).mine _ e;have h2:=o1.out;omega
 have nwP:wp≠w.heap.size:=Zo
 have nPw':w.heap.size≠wp:=Zo
 obtain ⟨n0,hn0,hz0,hz1,hz2⟩:=info_parts info_l7f
 have N2:=Blk.new wA.drew 75 #[.int .i64 (R 3).length,.string name,.int .i64 (pm i).line,.int .i64 (pm i).nn,.bool ((pm i).op==1),.slice none 0 0,.slice none 0 0,.slice none 0 0,.int .i64 0]
 go_cut [] (fun wd=>∃own2 V2 R2,Ws w0 wd wp tv own2 V2 R2 (B+1+1) (fun k=>if k=l+1 then 0 else lp k) (fun k=>if k=l+1 then ((pm i).op==1) else rs k)/\Fr own1 own2 wA wd/\(∀j,j≠2->R2 j=R1 j)/\R2 2=R1 2++ [[.int .i64 (R 3).length,.string name,.int .i64 (pm i).line,.int .i64 (pm i).nn,.bool ((pm i).op==1),.slice none 0 0,.slice none 0 0,.slice none 0 0,.int .i64 0]])
 case first=>
  refine wp_region_held_drew (S:=(fun w'=>w'.cell? ⟨w.heap.size,3,none⟩=some (.int .i64 (pm i).line)/\w'.cell? ⟨w.heap.size,8,none⟩=some (.slice (pm i).na (pm i).nn (pm i).nc)/\w'.cell? ⟨w.heap.size,4,none⟩=some (.int .i64 (pm i).op))) (by kernel_rfl) J292 (fun hHeld=>?_)
  refine tk 0 ?_
  refine tk 1 ?_
  refine tk 2 ?_
  refine tk 3 ?_
  refine tk 5 ?_
  refine tk 6 ?_
  refine tk 7 ?_
  refine tk 8 ?_
  refine tk 9 ?_
  refine tk 10 ?_
  refine tk 11 ?_
  refine tk 12 ?_
  refine tk 13 ?_
  refine tk 14 ?_
  refine tk 15 ?_
  refine tk 16 ?_
  refine rd [4,17] ?_
  refine AllReadyH.cons rfl (fun K hK=>?_) ?_
  ·simp only[gA,gB,gC]
   go_simp
   refine hK.out _ _ J292 (fun hHeld=>?_)
   clear hK K
   try simp only[gA,gB,gC,Act.put,gD,gE,gF]
   refine rd [17] ?_
   exact J32
  refine AllReadyH.cons rfl (fun K hK=>?_) ?_
  ·simp only[gA,gB,gC]
   go_simp
   refine hK.out _ _ J292 (fun hHeld=>?_)
   clear hK K
   try simp only[gA,gB,gC,Act.put,gD,gE,gF]
   refine rd [4] ?_
   exact J32
  exact AllReadyH.nil
 case rest=>
  obtain ⟨own2,V2,R2,h2,f2,e2,r2⟩:=hcut
  have len2:(R2 2).length=l+1+1:=by rw[r2,List.length_append,L1.out];rfl
  have at2:s.At R2:=AT1.out.rows (fun j h2 _=>e2 j h2)
  have PB2:Hid (Blk wc w.heap.size 67 #[.int .i64 (pm i).kind,.int .i64 (pm i).frm,.int .i64 (pm i).tto,.int .i64 (pm i).line,.int .i64 (pm i).op,.int .i64 (pm i).num,.float .f64 (pm i).flt,.string (pm i).text,.slice (pm i).na (pm i).nn (pm i).nc,.slice (some ⟨eb,eo,none⟩) (pm i).nk (pm i).kc]):=(f2.kept _ ⟨Blk.lt PB1.out,o1.out⟩).trans PB1.out
  have o2:Hid (own2 w.heap.size=0):=by show _=_;rw[f2.tags _ (Blk.lt PB1.out)];exact o1.out
  have F2:Hid (Fr own own2 w wc):=F1.out.trans f2
  have X3l:Hid ((R 3).length < (R2 3).length):=by
   show _ < _
   rw[e2 3 Zo]
   exact (List.getElem?_eq_some_iff.1 X3.out).1
  have M2:Hid (Mono R R2):=mono_open (by rw[r2,E1.out]) (Nat.le_of_lt X3l.out)
  have X2:Hid ((R2 3)[(R 3).length]?= some [.string {data:= #[]},.int .i64 0,.int .i64 0,.bool false,.slice none 0 0,.slice none 0 0,.slice none 0 0]):=by show _=_;rw[e2 3 Zo];exact X3.out
  have q8:=Blk.at_ PB2.out 8 rfl
  have zq:=Blk.lt PB2.out
  have hdec:=declare_ws h2 at2.scope (l:=l+1) len2 i (pm i).na (pm i).nn (pm i).nc (pm i).nm Zo hnm.out
  clear p3 p8 p4 zP B1 b2 bf zw hx hlen hne hlo hneP nwP nPw' hn0 hz0 hz1 hz2 N2
  go_wp2_with fail
  refine hdec.mono ?_
  rintro e w3 ⟨oa,oc,vs,rfl,own3,V3,R3,h3,f3,sr3,lr3⟩
  have at3:(s.declare i (pm i).nm (l+1) vs (pm i).nn).At R3:=(at2.declare i (pm i).nm (l+1) vs (pm i).nn).same sr3
  have len3:(R3 2).length=l+1+1:=by rw[sr3.len,declR_2];exact len2
  have sf3:SFn (s.declare i (pm i).nm (l+1) vs (pm i).nn) (l+1):=SFn.adds (SFn.up HF.out (Nat.le_succ l)) (Adds.declare _ _ _ _ _ _)
  have PB3:Hid (Blk w3 w.heap.size 67 #[.int .i64 (pm i).kind,.int .i64 (pm i).frm,.int .i64 (pm i).tto,.int .i64 (pm i).line,.int .i64 (pm i).op,.int .i64 (pm i).num,.float .f64 (pm i).flt,.string (pm i).text,.slice (pm i).na (pm i).nn (pm i).nc,.slice (some ⟨eb,eo,none⟩) (pm i).nk (pm i).kc]):=(f3.kept _ ⟨Blk.lt PB2.out,o2.out⟩).trans PB2.out
  have o3:Hid (own3 w.heap.size=0):=by show _=_;rw[f3.tags _ (Blk.lt PB2.out)];exact o2.out
  have F3:Hid (Fr own own3 w w3):=F2.out.trans f3
  have M3:Hid (Mono R R3):=fun k hk=>by
   have a:=M2.out k hk
   have b:=sr3.mono k (by rw[declR_2,len2];have:=HL.out;omega)
   unfold nlen at a b ⊢
   rw[declR_2] at b
   rw[declR_3] at b
   exact ⟨Nat.le_trans a.1 b.1,Nat.le_trans a.2.1 b.2.1,Nat.le_trans a.2.2 b.2.2⟩
  have X3m:Hid ((R 3).length < (R3 3).length):=by
   show _ < _
   have b:=(sr3.mono 0 (by rw[declR_2,len2];omega)).2.2
   rw[declR_3] at b
   have:=X3l.out
   omega
  have LEN3:Hid _:=len3
  have hblk:=HE.out w3 own3 V3 R3 _ (fun k=>if k=l+1 then 0 else lp k) (fun k=>if k=l+1 then ((pm i).op==1) else rs k) (l+1) _ h3 len3 at3 sf3 Zo Zo ⟨by simp only[if_true];omega,by simp only[if_true];omega⟩
  simp only[if_true] at hblk
  have y9:=Blk.at_ PB3.out 9 rfl
  have zy:=Blk.lt PB3.out
  have y0:=con h3.wk.ov Y0.out
  have zy0:=clt y0
  clear hdec h2 f2 e2 r2 len2 at2 q8 zq h3 f3 sr3 lr3 at3 sf3
  go_wp2_with fail
  refine hblk.mono ?_
  rintro e w4 ⟨r,hr,rfl,own4,V4,R4,s4,h4,f4,at4,l4,m4,rel4,e4⟩
  have len4:(R4 2).length=l+1+1:=l4.trans LEN3.out
  have LEN4:Hid _:=len4
  have D4:Hid ((R 3).length < (R4 3).length):=by
   show _ < _
   have b:=(m4 0 (by rw[LEN3.out];omega)).2.2
   have:=X3m.out
   omega
  have M4:Hid (Mono R R4):=fun k hk=>by
   have a:=M3.out k hk
   have b:=m4 k (by rw[LEN3.out];have:=HL.out;omega)
   exact ⟨Nat.le_trans a.1 b.1,Nat.le_trans a.2.1 b.2.1,Nat.le_trans a.2.2 b.2.2⟩
  have AD4:Hid (Adds s s4 (l+1)):=by
   show Adds _ _ _
   obtain ⟨t,h1,h2⟩:=Adds.declare s i (pm i).nm (l+1) vs (pm i).nn
   exact ⟨t,by rw[e4];exact h1,h2⟩
  have REL4:Hid _:=rel4
  have H4:Hid _:=h4
  have F4:Hid (Fr own own4 w w4):=F3.out.trans f4
  have AT4:Hid _:=at4
  have b1':=Blk.at_ h4.blk 1 rfl
  have bf:=h4.blk.free
  have zw:=h4.blk.lt
  have hsl:=h4.slice (j:=1) Zo Zo
  have hr1:Hid ((R4 1).length=s4.sc.length):=by show _=_;rw[at4.r1,List.length_map]
  have hle:Hid (s.sc.length<=s4.sc.length):=by show _<=_;obtain ⟨t,e,_⟩:=AD4.out;rw[e,List.length_append];omega
  clear hblk h4 f4 at4 l4 m4 rel4 e4 len4 len3 y9 zy y0 zy0
  go_upto_region 8 with (fail)
  go_cut [9] (fun _ wd=>∃V5 R5,Ws w0 wd wp tv own4 V5 R5 (B+1+1+4*(pm i).nn+4000*sz a0) (fun k=>if k=l+1 then 0 else lp k) (fun k=>if k=l+1 then ((pm i).op==1) else rs k)/\Fr own4 own4 w4 wd/\St.At (s4.cut s.sc.length) R5/\R5 2=R4 2/\R5 3=R4 3)
  case first=>
   rcases hsl with ⟨hv,hl0⟩|⟨g,cap,hv,hnc,hgb⟩
   ·have hz:s.sc.length=0:=J263
    rw[hv] at b1'
    have HV:Hid _:=hv
    have HZ:Hid _:=hz
    clear hv hl0
    simp only[hz]
    clear hz
    go_wp2_with fail
    go_meet
    case rel=>
     obtain ⟨p1,p2⟩:=H4.out.cutR (j:=1) (m:=0) Zo Zo Zo HV.out (Nat.zero_le _)
     rw[HZ.out]
     exact ⟨_,_,p1,p2,AT4.out.cut 0,rfl,rfl⟩
   ·rw[hv] at b1'
    have HV:Hid _:=hv
    have m0:(0:Int)<=(s.sc.length:Int):=Zo
    have m1:(s.sc.length:Int)<=(cap:Int):=J263
    have HM:Hid (s.sc.length<=(R4 1).length):=by show _<=_;rw[hr1.out];exact hle.out
    clear hv hnc
    go_wp2_with fail
    go_meet
    case rel=>
     obtain ⟨p1,p2⟩:=H4.out.cutR (j:=1) (m:=s.sc.length) Zo Zo Zo HV.out HM.out
     exact ⟨_,_,p1,p2,AT4.out.cut _,rfl,rfl⟩
  case rest=>
   obtain ⟨V5,R5,h5,f5,at5,e5,e53⟩:=hcut
   have len5:(R5 2).length=l+1+1:=by rw[e5];exact LEN4.out
   have D5:Hid ((R 3).length < (R5 3).length):=by show _ < _;rw[e53];exact D4.out
   have E53:Hid _:=e53
   have E5:Hid _:=e5
   have AT5:Hid _:=at5
   have F5:Hid (Fr own own4 w wc):=F4.out.trans f5
   have H5:Hid _:=h5
   have LEN5:Hid _:=len5
   have RS:Hid ((fun k=>if k=l+1 then ((pm i).op==1) else rs k) (l+1)=((pm i).op==1)):=if_pos rfl
   obtain ⟨g,cap,hv2,hcall⟩:=fn_wk h5.wk (l+1) len5 Zo
   clear h5 f5 at5 e5 e53 len5 b1' bf zw hsl
   go_wp2_with fail
   refine hcall.mono ?_
   rintro e w6 ⟨rfl,o6⟩
   have h6:=H5.out.onw o6
   obtain ⟨g',cap',cells,hv,hnc,ho,hkk,hcl,hL,hcc,hfz⟩:=h6.level (k:=l+1) (by rw[LEN5.out];omega)
   have hg':g'=g:=Ze
   subst hg'
   obtain ⟨num,nam,ln,pr,vv,uv,nv,vls,us,ns,hcells,rv,ru,rn,hus,lv,lu,lnn⟩:=hL
   simp only[if_true] at hcells
   have d0:w6.cell? ⟨g',(l+1)*9+1,none⟩=some (.string nam):=by rw[hcc 1 Zo,hcells];rfl
   have d1:w6.cell? ⟨g',(l+1)*9+1+1,none⟩=some (.int .i64 ln):=by rw[show (l+1)*9+1+1=(l+1)*9+2 by omega,hcc 2 Zo,hcells];rfl
   have d2:w6.cell? ⟨g',(l+1)*9+1+2,none⟩=some (.int .i64 pr):=by rw[show (l+1)*9+1+2=(l+1)*9+3 by omega,hcc 3 Zo,hcells];rfl
   have d3:w6.cell? ⟨g',(l+1)*9+1+3,none⟩=some (.bool ((pm i).op==1)):=by rw[show (l+1)*9+1+3=(l+1)*9+4 by omega,hcc 4 Zo,hcells];rfl
   have d4:w6.cell? ⟨g',(l+1)*9+1+4,none⟩=some vv:=by rw[show (l+1)*9+1+4=(l+1)*9+5 by omega,hcc 5 Zo,hcells];rfl
   have d5:w6.cell? ⟨g',(l+1)*9+1+5,none⟩=some uv:=by rw[show (l+1)*9+1+5=(l+1)*9+6 by omega,hcc 6 Zo,hcells];rfl
   have d6:w6.cell? ⟨g',(l+1)*9+1+6,none⟩=some nv:=by rw[show (l+1)*9+1+6=(l+1)*9+7 by omega,hcc 7 Zo,hcells];rfl
   have zg:=clt d0
   obtain ⟨va',vl',vc',hvv⟩:∃a b c,vv= .slice a b c:=by
    rcases rv.row.2 with ⟨e1,_⟩|⟨g,cap,cur,e1,_⟩
    ·exact ⟨_,_,_,e1⟩
    ·exact ⟨_,_,_,e1⟩
   obtain ⟨ua',ul',uc',huv⟩:∃a b c,uv= .slice a b c:=by
    rcases ru.row.2 with ⟨e1,_⟩|⟨g,cap,cur,e1,_⟩
    ·exact ⟨_,_,_,e1⟩
    ·exact ⟨_,_,_,e1⟩
   obtain ⟨na',nl',nc',hnv⟩:∃a b c,nv= .slice a b c:=by
    rcases rn.row.2 with ⟨e1,_⟩|⟨g,cap,cur,e1,_⟩
    ·exact ⟨_,_,_,e1⟩
    ·exact ⟨_,_,_,e1⟩
   rw[hvv] at d4
   rw[huv] at d5
   rw[hnv] at d6
   have O6:Hid _:=o6
   have H6:Hid _:=h6
   clear hcall hv2 o6 h6 hv hnc ho hkk hcl hcc hfz hcells rv ru rn hus hvv huv hnv
   have FB:=Blk.new w6 73 #[.string nam,.int .i64 ln,.int .i64 pr,.bool ((pm i).op==1),.slice va' vl' vc',.slice ua' ul' uc',.slice na' nl' nc']
   have O7:Hid (Onw w6 (w6.alloc (Obj.cells #[.string nam,.int .i64 ln,.int .i64 pr,.bool ((pm i).op==1),.slice va' vl' vc',.slice ua' ul' uc',.slice na' nl' nc'] 73))):=Onw.alloc w6 _
   go_wp2_with fail
   have h7:=H6.out.onw O7.out
   have zF:=Blk.lt FB
   have o4F:own4 w6.heap.size=0:=H6.out.wk.high _ (Nat.le_refl _)
   generalize w6.alloc (Obj.cells #[.string nam,.int .i64 ln,.int .i64 pr,.bool ((pm i).op==1),.slice va' vl' vc',.slice ua' ul' uc',.slice na' nl' nc'] 73)=w7 at*
   have f0:=Blk.at_ FB 0 rfl
   have f1:=Blk.at_ FB 1 rfl
   have f2:=Blk.at_ FB 2 rfl
   have f3:=Blk.at_ FB 3 rfl
   have f4:=Blk.at_ FB 4 rfl
   have f5:=Blk.at_ FB 5 rfl
   have f6:=Blk.at_ FB 6 rfl
   obtain ⟨g3,cap3,hv3,hb3,hnc3,ho3,hc3,hf3⟩:=(h7.wk.rows 3 Zo Zo).form (by have:=D5.out;omega)
   obtain ⟨x,hx3⟩:∃x,(R5 3)[(R 3).length]?= some x:=⟨_,List.getElem?_eq_getElem D5.out⟩
   have hxl:x.length=7:=(h7.wk.rows 3 Zo Zo).len x (List.mem_of_getElem? hx3)
   obtain ⟨x0,x1,x2,x3,x4,x5,x6,rfl⟩:∃x0 x1 x2 x3 x4 x5 x6,x= [x0,x1,x2,x3,x4,x5,x6]:=by
    match x,hxl with
    | [x0,x1,x2,x3,x4,x5,x6],_=>exact ⟨x0,x1,x2,x3,x4,x5,x6,rfl⟩
   have r37:rowZ 3=7:=rfl
   rw[r37] at hc3
   have z0:w7.cell? ⟨g3,(R 3).length*7,none⟩=some x0:=by have:=(hc3 (R 3).length _ 0 hx3 Zb).trans rfl;simpa using this
   have z1:w7.cell? ⟨g3,(R 3).length*7+1,none⟩=some x1:=(hc3 (R 3).length _ 1 hx3 Zb).trans rfl
   have z2:w7.cell? ⟨g3,(R 3).length*7+2,none⟩=some x2:=(hc3 (R 3).length _ 2 hx3 Zb).trans rfl
   have z3:w7.cell? ⟨g3,(R 3).length*7+3,none⟩=some x3:=(hc3 (R 3).length _ 3 hx3 Zb).trans rfl
   have z4:w7.cell? ⟨g3,(R 3).length*7+4,none⟩=some x4:=(hc3 (R 3).length _ 4 hx3 Zb).trans rfl
   have z5:w7.cell? ⟨g3,(R 3).length*7+5,none⟩=some x5:=(hc3 (R 3).length _ 5 hx3 Zb).trans rfl
   have z6:w7.cell? ⟨g3,(R 3).length*7+6,none⟩=some x6:=(hc3 (R 3).length _ 6 hx3 Zb).trans rfl
   have zf0:=hf3 ((R 3).length*7)
   have zf1:=hf3 ((R 3).length*7+1)
   have zf2:=hf3 ((R 3).length*7+2)
   have zf3:=hf3 ((R 3).length*7+3)
   have zf4:=hf3 ((R 3).length*7+4)
   have zf5:=hf3 ((R 3).length*7+5)
   have zf6:=hf3 ((R 3).length*7+6)
   have b3:w7.cell? ⟨wp,3,none⟩=some (.slice (some ⟨g3,0,none⟩) (R5 3).length cap3):=by rw[h7.blk.cell,<-hv3];rfl
   have zb3:=h7.blk.lt
   have zg3:=clt z0
   have n30:(0:Int)<=((R 3).length:Int):=Zo
   have n31:((R 3).length:Int) < ((R5 3).length:Int):=by have:=D5.out;omega
   have g3w:g3≠wp:=fun e=>by have h9:=h7.wk.wpo;rw[<-e] at h9;omega
   have wg3:wp≠g3:=Ne.symm g3w
   have g3F:g3≠w6.heap.size:=fun e=>by rw[e,o4F] at ho3;omega
   have Fg3:w6.heap.size≠g3:=Ne.symm g3F
   have HX3:Hid _:=hx3
   have HV3':Hid _:=hv3
   have H7:Hid _:=h7
   clear hc3 hf3 hxl hx3 hv3 h7 hnc3 ho3 hb3 r37 d0 d1 d2 d3 d4 d5 d6 zg FB
   go_region_held3 (fun w'=>w'.cell? ⟨wp,3,none⟩=some (.slice (some ⟨g3,0,none⟩) (R5 3).length cap3)/\w'.cell? ⟨w6.heap.size,0,none⟩=some (.string nam)/\w'.cell? ⟨w6.heap.size,1,none⟩=some (.int .i64 ln)/\w'.cell? ⟨w6.heap.size,2,none⟩=some (.int .i64 pr)/\w'.cell? ⟨w6.heap.size,3,none⟩=some (.bool ((pm i).op==1))/\w'.cell? ⟨w6.heap.size,4,none⟩=some (.slice va' vl' vc')/\w'.cell? ⟨w6.heap.size,5,none⟩=some (.slice ua' ul' uc')/\w'.cell? ⟨w6.heap.size,6,none⟩=some (.slice na' nl' nc')) (go_keep) (fail)
   go_wp2_with fail
   obtain ⟨R8,q1,q2,q3,q4⟩:=H7.out.set3all HV3'.out HX3.out (.string nam) (.int .i64 ln) (.int .i64 pr) (.bool ((pm i).op==1)) (.slice va' vl' vc') (.slice ua' ul' uc') (.slice na' nl' nc')
   have h8:=q1.onw (Below.drew (Onw.refl _))
   have F8:Hid (Fr own own4 w ((((((((w7).setCell ⟨g3,(R 3).length*7,none⟩ (.string nam)).setCell ⟨g3,(R 3).length*7+1,none⟩ (.int .i64 ln)).setCell ⟨g3,(R 3).length*7+2,none⟩ (.int .i64 pr)).setCell ⟨g3,(R 3).length*7+3,none⟩ (.bool ((pm i).op==1))).setCell ⟨g3,(R 3).length*7+4,none⟩ (.slice va' vl' vc')).setCell ⟨g3,(R 3).length*7+5,none⟩ (.slice ua' ul' uc')).setCell ⟨g3,(R 3).length*7+6,none⟩ (.slice na' nl' nc')).drew):=(((F5.out.trans (Fr.onw O6.out)).trans (Fr.onw O7.out)).trans q2).trans (Fr.onw (Below.drew (Onw.refl _)))
   have LEN8:Hid ((R8 2).length=l+1+1):=by show _=_;rw[q3 2 Zo];exact LEN5.out
   have M8:Hid (Mono R R8):=fun k hk=>by
    have a:=M4.out k hk
    unfold nlen at a ⊢
    rw[q3 2 Zo,E5.out,q4,E53.out];exact a
   have AT8:Hid (St.At (s4.cut s.sc.length) R8):=AT5.out.rows (fun j _ h3=>q3 j h3)
   clear q1 q2 q3 q4 z0 z1 z2 z3 z4 z5 z6 zf0 zf1 zf2 zf3 zf4 zf5 zf6 f0 f1 f2 f3 f4 f5 f6 b3 zb3 zg3 n30 n31 g3w wg3 g3F Fg3 zF
   generalize ((((((((w7).setCell ⟨g3,(R 3).length*7,none⟩ (.string nam)).setCell ⟨g3,(R 3).length*7+1,none⟩ (.int .i64 ln)).setCell ⟨g3,(R 3).length*7+2,none⟩ (.int .i64 pr)).setCell ⟨g3,(R 3).length*7+3,none⟩ (.bool ((pm i).op==1))).setCell ⟨g3,(R 3).length*7+4,none⟩ (.slice va' vl' vc')).setCell ⟨g3,(R 3).length*7+5,none⟩ (.slice ua' ul' uc')).setCell ⟨g3,(R 3).length*7+6,none⟩ (.slice na' nl' nc')).drew=w8 at*
   obtain ⟨ga,capa,hva⟩:=h8.fns LEN8.out
   have b2:w8.cell? ⟨wp,2,none⟩=some (.slice (some ⟨ga,0,none⟩) (l+1+1:Nat) capa):=by rw[h8.blk.cell,<-hva];rfl
   have bf:=h8.blk.free
   have zw:=h8.blk.lt
   have hca:l+1+1<=capa:=by
    rcases h8.slice (j:=2) Zo Zo with ⟨e,_⟩|⟨g,cap,e,e1,_⟩
    ·rw[hva] at e;cases e
    ·rw[hva] at e
     simp only[Value.slice.injEq] at e
     have:=LEN8.out
     omega
   have m0:(0:Int)<=(l:Int)+1:=Zo
   have m1:(l:Int)+1<=(capa:Int):=Zo
   obtain ⟨lq,hlq⟩:∃lq,lq=l+1:=⟨_,rfl⟩
   rw[<-hlq] at b2
   have lq1:lq<=3001:=Zo
   have lq0:(0:Int)<=(lq:Int):=Zo
   have lq2:(lq:Int)<=(capa:Int):=Zo
   have HLQ:Hid _:=hlq
   clear hlq m0 m1
   have H8:Hid _:=h8
   have HVA:Hid _:=hva
   clear h8 hva hca
   go_cut [] (fun wd=>∃V9 R9,Ws w0 wd wp tv own4 V9 R9 (B+1+1+4*(pm i).nn+4000*sz a0) lp rs/\Fr own4 own4 w8 wd/\(∀j,j≠2->R9 j=R8 j)/\R9 2=(R8 2).take (l+1))
   case first=>
    refine wp_region_held_drew (S:=(fun _=>True)) (by kernel_rfl) (by trivial) (fun hHeld=>?_)
    refine wpAnyH_take (i:=0) (v:=?_) rfl (by kernel_rfl) (by kernel_rfl) (by kernel_rfl) (fun _ _ _ h=>h) (Or.inl ⟨by rfl,?_⟩) J304 ?_
    rotate_left
    ·exact J65
    simp only[List.getElem_toArray,List.getElem_cons_zero,Act.put,List.setIfInBounds_toArray,List.set_cons_zero,List.set_cons_succ]
    refine wpAnyH_take (i:=1) (v:=?_) rfl (by kernel_rfl) (by kernel_rfl) (by kernel_rfl) (fun _ _ _ h=>h) (Or.inl ⟨by rfl,?_⟩) J304 ?_
    rotate_left
    ·exact J65
    simp only[List.getElem_toArray,List.getElem_cons_succ,List.getElem_cons_zero,Act.put,List.setIfInBounds_toArray,List.set_cons_zero,List.set_cons_succ]
    refine wpAnyH_take (i:=2) (v:=?_) rfl (by kernel_rfl) (by kernel_rfl) (by kernel_rfl) (fun _ _ _ h=>h) (Or.inl ⟨by rfl,?_⟩) J304 ?_
    rotate_left
    ·exact J65
    simp only[List.getElem_toArray,List.getElem_cons_succ,List.getElem_cons_zero,Act.put,List.setIfInBounds_toArray,List.set_cons_zero,List.set_cons_succ]
    refine wpAnyH_take (i:=3) (v:=?_) rfl (by kernel_rfl) (by kernel_rfl) (by kernel_rfl) (fun _ _ _ h=>h) (Or.inl ⟨by rfl,?_⟩) J304 ?_
    rotate_left
    ·exact J65
    simp only[List.getElem_toArray,List.getElem_cons_succ,List.getElem_cons_zero,Act.put,List.setIfInBounds_toArray,List.set_cons_zero,List.set_cons_succ]
    refine wpAnyH_take (i:=5) (v:=?_) rfl (by kernel_rfl) (by kernel_rfl) (by kernel_rfl) (fun _ _ _ h=>h) (Or.inl ⟨by rfl,?_⟩) J304 ?_
    rotate_left
    ·exact J65
    simp only[List.getElem_toArray,List.getElem_cons_succ,List.getElem_cons_zero,Act.put,List.setIfInBounds_toArray,List.set_cons_zero,List.set_cons_succ]
    refine wpAnyH_take (i:=6) (v:=?_) rfl (by kernel_rfl) (by kernel_rfl) (by kernel_rfl) (fun _ _ _ h=>h) (Or.inl ⟨by rfl,?_⟩) J304 ?_
    rotate_left
    ·exact J65
    simp only[List.getElem_toArray,List.getElem_cons_succ,List.getElem_cons_zero,Act.put,List.setIfInBounds_toArray,List.set_cons_zero,List.set_cons_succ]
    refine wpAnyH_take (i:=7) (v:=?_) rfl (by kernel_rfl) (by kernel_rfl) (by kernel_rfl) (fun _ _ _ h=>h) (Or.inl ⟨by rfl,?_⟩) J304 ?_
    rotate_left
    ·exact J65
    simp only[List.getElem_toArray,List.getElem_cons_succ,List.getElem_cons_zero,Act.put,List.setIfInBounds_toArray,List.set_cons_zero,List.set_cons_succ]
    refine wpAnyH_ready (rs:= [4,8]) (by kernel_rfl) J269 ?_
    refine AllReadyH.cons rfl (fun K hK=>?_) ?_
    ·simp only[gA,gB,gC]
     go_simp
     refine hK.out _ _ trivial (fun hHeld=>?_)
     clear hK K
     try simp only[List.getElem_toArray,List.getElem_cons_succ,List.getElem_cons_zero,Act.put,List.setIfInBounds_toArray,List.set_cons_zero,List.set_cons_succ]
     refine wpAnyH_ready (rs:= [8]) (by kernel_rfl) J269 ?_
     refine AllReadyH.cons rfl (fun K hK=>?_) ?_
     ·simp only[gA,gB,gC]
      go_simp
      refine hK.out _ _ trivial (fun hHeld=>?_)
      clear hK K
      try simp only[List.getElem_toArray,List.getElem_cons_succ,List.getElem_cons_zero,Act.put,List.setIfInBounds_toArray,List.set_cons_zero,List.set_cons_succ]
      refine wpAnyH_take (i:=9) (v:=?_) rfl (by kernel_rfl) (by kernel_rfl) (by kernel_rfl) (fun _ _ _ h=>h) (Or.inl ⟨by rfl,?_⟩) J304 ?_
      rotate_left
      ·exact J65
      simp only[List.getElem_toArray,List.getElem_cons_succ,List.getElem_cons_zero,Act.put,List.setIfInBounds_toArray,List.set_cons_zero,List.set_cons_succ]
      refine wpAnyH_take (i:=10) (v:=?_) rfl (by kernel_rfl) (by kernel_rfl) (by kernel_rfl) (fun _ _ _ h=>h) (Or.inl ⟨by rfl,?_⟩) J304 ?_
      rotate_left
      ·exact J65
      simp only[List.getElem_toArray,List.getElem_cons_succ,List.getElem_cons_zero,Act.put,List.setIfInBounds_toArray,List.set_cons_zero,List.set_cons_succ]
      simp only[wrap_nat lq1]
      exact J31
     exact AllReadyH.nil
    refine AllReadyH.cons rfl (fun K hK=>?_) ?_
    ·simp only[gA,gB,gC]
     go_simp
     refine hK.out _ _ trivial (fun hHeld=>?_)
     clear hK K
     try simp only[List.getElem_toArray,List.getElem_cons_succ,List.getElem_cons_zero,Act.put,List.setIfInBounds_toArray,List.set_cons_zero,List.set_cons_succ]
     refine wpAnyH_take (i:=9) (v:=?_) rfl (by kernel_rfl) (by kernel_rfl) (by kernel_rfl) (fun _ _ _ h=>h) (Or.inl ⟨by rfl,?_⟩) J304 ?_
     rotate_left
     ·exact J65
     simp only[List.getElem_toArray,List.getElem_cons_succ,List.getElem_cons_zero,Act.put,List.setIfInBounds_toArray,List.set_cons_zero,List.set_cons_succ]
     refine wpAnyH_take (i:=10) (v:=?_) rfl (by kernel_rfl) (by kernel_rfl) (by kernel_rfl) (fun _ _ _ h=>h) (Or.inl ⟨by rfl,?_⟩) J304 ?_
     rotate_left
     ·exact J65
     simp only[List.getElem_toArray,List.getElem_cons_succ,List.getElem_cons_zero,Act.put,List.setIfInBounds_toArray,List.set_cons_zero,List.set_cons_succ]
     simp only[wrap_nat lq1]
     refine wpAnyH_ready (rs:= [4]) (by kernel_rfl) J269 ?_
     refine AllReadyH.cons rfl (fun K hK=>?_) ?_
     ·simp only[gA,gB,gC]
      go_simp
      refine hK.out _ _ trivial (fun hHeld=>?_)
      clear hK K
      try simp only[List.getElem_toArray,List.getElem_cons_succ,List.getElem_cons_zero,Act.put,List.setIfInBounds_toArray,List.set_cons_zero,List.set_cons_succ]
      exact J31
     exact AllReadyH.nil
    exact AllReadyH.nil
   case rest=>
    obtain ⟨V9,R9,h9,f9,e9,t9⟩:=hcut
    have LEN9:Hid ((R9 2).length=l+1):=by show _=_;rw[t9,List.length_take,LEN8.out];omega
    have M9:Hid (Mono R R9):=mono_close t9 (e9 3 Zo) (by rw[HL.out];exact Nat.le_refl _) M8.out
    have AT9:Hid (St.At (s4.cut s.sc.length) R9):=AT8.out.rows (fun j h2 _=>e9 j h2)
    have F9:Hid (Fr own own4 w wc):=F8.out.trans f9
    have H9:Hid _:=h9
    clear h9 f9 e9 t9 b2 bf zw
    go_wp2_with fail
    refine (add_ws (H9.out.onw (Onw.alloc _ _)) Zo LEN9.out ⟨⟨36,0,0,0,0,{data:= #[]},1,fun _=>0,0,fun _=>0⟩,some ⟨wc.heap.size,0,none⟩,1,none,0⟩).mono ?_
    rintro e w9 ⟨r',hr',rfl,hp⟩
    have P:Hid (PostS w0 wp tv own w R (B+4000*sz i) lp rs w9 (fun s'=>Rel (pdOf pm) FX l (lp l) (rs l) i s s'/\s'.sc=s.sc)):=(PostS.then_ (F9.out.trans (Fr.onw (Onw.alloc _ _))) (LEN9.out.trans HL.out.symm) M9.out (hp.toS (P:=fun s'=>Rel (pdOf pm) FX l (lp l) (rs l) i s s'/\s'.sc=s.sc) AT9.out rfl ⟨relC.fn HKK.out (by rw[show (pdOf pm i).kd 0=(a0:Int) from A0.out];exact REL4.out),Adds.cut AD4.out⟩)).more Zo
    clear hp
    go_wp2_with fail
    go_ret
    exact ⟨r',by omega,rfl,P.out⟩
end Go.Proofs.YtlibofjbhhdjdaaGreat
