import Derived.Test.YtlibofjbhhdjdaaGreatQ
import Derived.Test.YtlibofjbhhdjdaaGreatP27
set_option linter.unusedSimpArgs false
set_option maxRecDepth 100000
set_option maxHeartbeats 16000000
namespace Go.Proofs.YtlibofjbhhdjdaaGreat
open Go.RowKit
attribute [local go_sem] rsf
variable {w:World}
theorem Ws.init {w0 w:World}(o:Onw w0 w)(tv:Value)(lp:Nat->Int)(rs:Nat->Bool):Ws w0 (w.alloc (.cells #[tv,.slice none 0 0,.slice none 0 0,.slice none 0 0,.slice none 0 0,.slice none 0 0,.slice none 0 0,.slice none 0 0,.slice none 0 0,.slice none 0 0,.slice none 0 0,.slice none 0 0] 51)) w.heap.size tv (fun k=>if k=w.heap.size then 1 else 0) (fun _=> .slice none 0 0) (fun _=> []) 0 lp rs:=by
 have z:=o.size
 exact ⟨⟨o.trans (Onw.alloc _ _),z,Blk.new w _ _,if_pos rfl,fun k hk=>if_neg Zo,fun k hk=>if_neg (by rw[World.size_alloc] at hk;omega),fun j _ _=>RowAt.nil _ _ _ _ _ _⟩,fun j _ _=>Nat.le_refl _,fun k hk=>by simp at hk⟩
theorem Ws.open0 {w0 w w1 w2:World}{wp:Nat}{tv:Value}{own:Nat->Nat}{V:Nat->Value}{R:Nat->List (List Value)}{B:Nat}{lp:Nat->Int}{rs:Nat->Bool}(h:Ws w0 w wp tv own V R B lp rs)(hl:(R 2).length=0){num:Int}{nm:ByteArray}{ln pr:Int}{re:Bool}{g cap:Nat}(hw1:Onw w w1)(hown:w2.ownsRow w0.heap.size (rowT 2) (rowZ 2) (.slice (some ⟨g,0,none⟩) ((R 2).length+1:Nat) cap) ((R 2).length+1) ((R 2).flatten++ [.int .i64 num,.string nm,.int .i64 ln,.int .i64 pr,.bool re,.slice none 0 0,.slice none 0 0,.slice none 0 0,.int .i64 0]))(hgrow:w1.grownBy w2 (V 2).ownBlock)(hwh:(V 2).ownBlock=some g\/w1.heap.size<=g):
  Ws w0 (w2.setCell ⟨wp,2,none⟩ (.slice (some ⟨g,0,none⟩) ((R 2).length+1:Nat) cap)) wp tv (bump own w.heap.size g 3) (setV V 2 (.slice (some ⟨g,0,none⟩) ((R 2).length+1:Nat) cap)) (pushR R 2 [.int .i64 num,.string nm,.int .i64 ln,.int .i64 pr,.bool re,.slice none 0 0,.slice none 0 0,.slice none 0 0,.int .i64 0]) (B+1) (fun _=>0) (fun _=>re)
  /\Fr own (bump own w.heap.size g 3) w (w2.setCell ⟨wp,2,none⟩ (.slice (some ⟨g,0,none⟩) ((R 2).length+1:Nat) cap)):=by
 obtain ⟨a,b⟩:=h.wk.push (j:=2) Zo Zo rfl hw1 hown hgrow hwh
 have hn:R 2= []:=List.eq_nil_of_length_eq_zero hl
 refine ⟨⟨a,fun i i1 i2=>?_,fun k hk=>?_⟩,b⟩
 ·exact J154
 ·have e2:pushR R 2 [.int .i64 num,.string nm,.int .i64 ln,.int .i64 pr,.bool re,.slice none 0 0,.slice none 0 0,.slice none 0 0,.int .i64 0] 2=R 2++ [[.int .i64 num,.string nm,.int .i64 ln,.int .i64 pr,.bool re,.slice none 0 0,.slice none 0 0,.slice none 0 0,.int .i64 0]]:=if_pos rfl
  rw[e2,hn] at hk
  rw[e2,hn]
  obtain rfl:k=0:=by simp at hk;exact hk
  exact ⟨_,rfl,num,nm,ln,pr,_,_,_, [], [], [],rfl,RowAt.nil _ _ _ _ _ _,RowAt.nil _ _ _ _ _ _,RowAt.nil _ _ _ _ _ _,fun x hx=>by simp at hx,Nat.zero_le _,Nat.zero_le _,Nat.zero_le _⟩
def St.none_:St:=⟨[], [], [], [], [], [], [], [], []⟩
theorem walk_ws {FX:List SNm->Nat->CV->Prop}{n:Nat}{pm:Nat->PM}{pa:Option Addr}{pc:Nat}(ha:PartsAt w pa (n+1) pm)(hs:specT (pdOf pm) (n+1)=(0,0))(cap:∀i,i < n+1->(pm i).nk<=(pm i).kc)(fx:∀wp,FixOk w wp (.slice pa (n+1:Nat) pc) (n+1) FX):
  Calls Tryz.prog 15 #[.agg #[.slice pa (n+1:Nat) pc]] w fun e w'=>∃(wp:Nat) (own:Nat->Nat) (V:Nat->Value) (R:Nat->List (List Value)) (B:Nat) (s:St),e= .returned (.pointer (some ⟨wp,0,none⟩))/\Ws w w' wp (.slice pa (n+1:Nat) pc) own V R B (fun _=>0) (fun _=>true)/\s.At R/\B<=16777216/\Rel (pdOf pm) FX 0 0 true n St.none_ s:=by
 obtain ⟨tr,sh,_,hk1,hsz⟩:=sound_tr (pc:=pc) ha hs
 rw[Nat.add_sub_cancel] at hk1 hsz
 have npl:=tr.npl
 have BO:Hid (∀wp,BlockOk w wp (.slice pa (n+1:Nat) pc) (pdOf pm) FX (szOf (pdOf pm) (n+1)) n):=fun wp=>(all_ok tr sh cap (fx wp) n Zo).2.2 hk1
 have HSZ:Hid _:=hsz
 clear tr sh hk1 hsz cap fx hs ha
 have W0:Hid _:=Ws.init (Onw.alloc w (.cells #[.slice pa (n+1:Nat) pc] 30)) (.slice pa (n+1:Nat) pc) (fun _=>0) (fun _=>true)
 have TB0:Hid _:=Blk.onw (Onw.alloc _ (.cells #[.slice pa (n+1:Nat) pc,.slice none 0 0,.slice none 0 0,.slice none 0 0,.slice none 0 0,.slice none 0 0,.slice none 0 0,.slice none 0 0,.slice none 0 0,.slice none 0 0,.slice none 0 0,.slice none 0 0] 51)) (Blk.new w 30 #[.slice pa (n+1:Nat) pc])
 have zA:w.heap.size+1 < ((w.alloc (.cells #[.slice pa (n+1:Nat) pc] 30)).alloc (.cells #[.slice pa (n+1:Nat) pc,.slice none 0 0,.slice none 0 0,.slice none 0 0,.slice none 0 0,.slice none 0 0,.slice none 0 0,.slice none 0 0,.slice none 0 0,.slice none 0 0,.slice none 0 0,.slice none 0 0] 51)).heap.size:=J269
 obtain ⟨n0,hn0,hz0,hz1,hz2⟩:=info_parts info_fn
 have N1:=Blk.new ((w.alloc (.cells #[.slice pa (n+1:Nat) pc] 30)).alloc (.cells #[.slice pa (n+1:Nat) pc,.slice none 0 0,.slice none 0 0,.slice none 0 0,.slice none 0 0,.slice none 0 0,.slice none 0 0,.slice none 0 0,.slice none 0 0,.slice none 0 0,.slice none 0 0,.slice none 0 0] 51)) 73 #[.string {data:= #[]},.int .i64 0,.int .i64 0,.bool false,.slice none 0 0,.slice none 0 0,.slice none 0 0]
 go_enter Tryz.func15,Tryz.ntmps15
 go_upto_region 2 with (fail)
 rw[World.size_alloc] at W0
 generalize hwA:(w.alloc (.cells #[.slice pa (n+1:Nat) pc] 30)).alloc (.cells #[.slice pa (n+1:Nat) pc,.slice none 0 0,.slice none 0 0,.slice none 0 0,.slice none 0 0,.slice none 0 0,.slice none 0 0,.slice none 0 0,.slice none 0 0,.slice none 0 0,.slice none 0 0,.slice none 0 0] 51)=wA at*
 clear hwA
 have b3:=Blk.at_ W0.out.blk 3 rfl
 have bf:=W0.out.blk.free
 have zb:=W0.out.blk.lt
 go_upto_region 3 with (first|(at_builtin;refine wpList_app _ rfl (.tmp 11) (.tmp 13) 45 rfl w.heap.size 73 n0 _ 7 112 Tryz.underlying45 hn0 hz0 hz1 hz2 rfl Zb (.slice none 0 0) 0 [] rfl (World.ownsRow_nil _ _ _ _) ⟨wA.heap.size,0,none⟩ 1 1 [.string {data:= #[]},.int .i64 0,.int .i64 0,.bool false,.slice none 0 0,.slice none 0 0,.slice none 0 0] rfl rfl (fun j u hj=>by rw[Go.WideShapes.add_plain,N1.cell,Nat.zero_add];simpa using hj) J262 Zb Zm Zo Zj ?_;intro g3 cap3 w1 hown hgrow hwhere;have B2:=(hgrow.block (w.heap.size+1) Zj (by simp[Value.ownBlock])).trans (Blk.onw (Onw.alloc _ _) W0.out.blk);have bf2:=Blk.free B2;have b32:w1.cell? ⟨w.heap.size+1,3,none⟩=some (.slice none 0 0):=(by rw[Blk.cell B2];rfl);have zb2:=Blk.lt B2))
 obtain ⟨h1,f1⟩:=W0.out.push (j:=3) Zo Zo Zo (x:= [.string {data:= #[]},.int .i64 0,.int .i64 0,.bool false,.slice none 0 0,.slice none 0 0,.slice none 0 0]) rfl (Onw.alloc _ _) hown hgrow hwhere
 have P1:∃own1 V1 R1,Ws w (w1.setCell ⟨w.heap.size+1,3,none⟩ (.slice (some ⟨g3,0,none⟩) 1 cap3)) (w.heap.size+1) (.slice pa (n+1:Nat) pc) own1 V1 R1 1 (fun _=>0) (fun _=>true)/\V1 2= .slice none 0 0/\(R1 3).length=1/\(∀j,j≠3->R1 j= [])/\own1 w.heap.size=0/\Blk (w1.setCell ⟨w.heap.size+1,3,none⟩ (.slice (some ⟨g3,0,none⟩) 1 cap3)) w.heap.size 30 #[.slice pa (n+1:Nat) pc]:=
  ⟨_,_,_,h1,rfl,rfl,fun j hj=>if_neg hj,(f1.tags w.heap.size Zo).trans (if_neg Zo),(f1.kept w.heap.size ⟨by omega,if_neg Zo⟩).trans TB0.out⟩
 clear h1 f1 hown hgrow hwhere B2 bf2 b32 zb2 N1 b3 bf zb hn0 hz0 hz1 hz2 W0 TB0
 generalize w1.setCell ⟨w.heap.size+1,3,none⟩ (.slice (some ⟨g3,0,none⟩) 1 cap3)=wB at*
 obtain ⟨own1,V1,R1,h1,v12,r13,r1,o1,tb1⟩:=P1
 have H1:Hid _:=h1
 have V12:Hid _:=v12
 have R13:Hid _:=r13
 have RR1:Hid _:=r1
 have OT1:Hid _:=o1
 have TB1:Hid _:=tb1
 have b2:wB.cell? ⟨w.heap.size+1,2,none⟩=some (.slice none 0 0):=by rw[h1.blk.cell,<-v12];rfl
 have bf:=h1.blk.free
 have zb:=h1.blk.lt
 have zt:=Blk.lt tb1
 have hlo:=h1.wk.ov.size
 clear h1 v12 r13 r1 o1 tb1 zA
 obtain ⟨n0',hn0,hz0,hz1,hz2⟩:=info_parts info_l7f
 have N1:=Blk.new wB 75 #[.int .i64 0,.string {data:= #[109,97,105,110]},.int .i64 0,.int .i64 0,.bool true,.slice none 0 0,.slice none 0 0,.slice none 0 0,.int .i64 0]
 go_upto_region 4 with (first|(at_builtin;refine wpList_app _ rfl (.tmp 21) (.tmp 24) 44 rfl w.heap.size 75 n0' _ 9 128 Tryz.underlying44 hn0 hz0 hz1 hz2 rfl Zb (.slice none 0 0) 0 [] rfl (World.ownsRow_nil _ _ _ _) ⟨wB.heap.size,0,none⟩ 1 1 [.int .i64 0,.string {data:= #[109,97,105,110]},.int .i64 0,.int .i64 0,.bool true,.slice none 0 0,.slice none 0 0,.slice none 0 0,.int .i64 0] rfl rfl (fun j u hj=>by rw[Go.WideShapes.add_plain,N1.cell,Nat.zero_add];simpa using hj) J262 Zb Zm Zo Zj ?_;intro g2 cap2 w2 hown hgrow hwhere;have B2:=(hgrow.block (w.heap.size+1) Zj (by simp[Value.ownBlock])).trans (Blk.onw (Onw.alloc _ _) H1.out.blk);have bf2:=Blk.free B2;have b22:w2.cell? ⟨w.heap.size+1,2,none⟩=some (.slice none 0 0):=(by rw[Blk.cell B2,<-V12.out];rfl);have zb2:=Blk.lt B2))
 have P2:∃own2 V2 R2,Ws w (w2.setCell ⟨w.heap.size+1,2,none⟩ (.slice (some ⟨g2,0,none⟩) 1 cap2)) (w.heap.size+1) (.slice pa (n+1:Nat) pc) own2 V2 R2 2 (fun _=>0) (fun _=>true)/\(R2 2).length=1/\(R2 3).length=1/\(∀j,j≠2->j≠3->R2 j= [])/\own2 w.heap.size=0/\Blk (w2.setCell ⟨w.heap.size+1,2,none⟩ (.slice (some ⟨g2,0,none⟩) 1 cap2)) w.heap.size 30 #[.slice pa (n+1:Nat) pc]:=by
  have e2:R1 2= []:=RR1.out 2 Zo
  obtain ⟨h2,f2⟩:=H1.out.open0 (by rw[e2];rfl) (num:=0) (nm:={data:= #[109,97,105,110]}) (ln:=0) (pr:=0) (re:=true) (g:=g2) (cap:=cap2) (Onw.alloc _ _) (by rw[e2];exact hown) (by rw[V12.out];exact hgrow) (by rw[V12.out];exact hwhere)
  rw[e2] at h2 f2
  exact ⟨_,_,_,h2,by show (R1 2++_).length=1;rw[e2];rfl,R13.out,fun j j2 j3=>(if_neg j2).trans (RR1.out j j3),(f2.tags w.heap.size zt).trans OT1.out,(f2.kept w.heap.size ⟨zt,OT1.out⟩).trans TB1.out⟩
 clear hown hgrow hwhere B2 bf2 b22 zb2 N1 b2 bf zb hn0 hz0 hz1 hz2 zt hlo H1 V12 R13 RR1 OT1 TB1
 generalize w2.setCell ⟨w.heap.size+1,2,none⟩ (.slice (some ⟨g2,0,none⟩) 1 cap2)=wC at*
 obtain ⟨own2,V2,R2,h2,r22,r23,r2,o2,tb2⟩:=P2
 have H2:Hid _:=h2
 have R22:Hid _:=r22
 have R23:Hid _:=r23
 have t0:=Blk.at_ tb2 0 rfl
 have zt:=clt t0
 have AT2:Hid (St.none_.At R2):=⟨r2 1 Zo Zo,r2 4 Zo Zo,r2 5 Zo Zo,r2 6 Zo Zo,r2 7 Zo Zo,r2 8 Zo Zo,r2 9 Zo Zo,r2 10 Zo Zo,r2 11 Zo Zo⟩
 clear h2 r22 r23 r2 o2 tb2
 go_wp2_with fail
 refine (BO.out (w.heap.size+1) wC own2 V2 R2 2 (fun _=>0) (fun _=>true) 0 St.none_ H2.out R22.out AT2.out (fun x hx=>by simp[St.none_] at hx) (by rw[HSZ.out];omega) Zo ⟨Int.le_refl _,by omega⟩).mono ?_
 rintro e w3 ⟨r,hr,rfl,own3,V3,R3,s3,h3,f3,a3,l3,m3,q3,e3⟩
 have H3:Hid _:=h3
 have A3:Hid _:=a3
 have Q3:Hid _:=q3
 have L3:Hid ((R3 2).length=1):=l3.trans R22.out
 have D3:Hid (0 < (R3 3).length):=by show _ < _;have:=(m3 0 (by rw[R22.out];omega)).2.2;have:=R23.out;omega
 clear h3 f3 a3 l3 m3 q3 e3 t0 zt
 obtain ⟨g,capf,hv2,hcall⟩:=fn_wk H3.out.wk 0 L3.out Zo
 rw[Nat.zero_mul] at hcall
 obtain ⟨g',cap',cells,hv,hnc,ho,hkk,hcl,hL,hcc,hfz⟩:=H3.out.level (k:=0) (by rw[L3.out];omega)
 have hg':g'=g:=Ze
 subst hg'
 obtain ⟨num,nam,ln,pr,vv,uv,nv,vls,us,ns,hcells,rv,ru,rn,hus,lv,lu,lnn⟩:=hL
 rw[Nat.zero_mul] at hcc
 obtain ⟨va',vl',vc',hvv⟩:∃a b c,vv= .slice a b c:=by
  rcases rv.row.2 with ⟨e1,_⟩|⟨g,cap,cur,e1,_⟩ <;> exact ⟨_,_,_,e1⟩
 obtain ⟨ua',ul',uc',huv⟩:∃a b c,uv= .slice a b c:=by
  rcases ru.row.2 with ⟨e1,_⟩|⟨g,cap,cur,e1,_⟩ <;> exact ⟨_,_,_,e1⟩
 obtain ⟨na',nl',nc',hnv⟩:∃a b c,nv= .slice a b c:=by
  rcases rn.row.2 with ⟨e1,_⟩|⟨g,cap,cur,e1,_⟩ <;> exact ⟨_,_,_,e1⟩
 have d1:w3.cell? ⟨g',1,none⟩=some (.string nam):=by have:=hcc 1 Zo;rw[hcells] at this;exact this
 have d2:w3.cell? ⟨g',1+1,none⟩=some (.int .i64 ln):=by have:=hcc 2 Zo;rw[hcells] at this;exact this
 have d3:w3.cell? ⟨g',1+2,none⟩=some (.int .i64 pr):=by have:=hcc 3 Zo;rw[hcells] at this;exact this
 have d4:w3.cell? ⟨g',1+3,none⟩=some (.bool true):=by have:=hcc 4 Zo;rw[hcells] at this;exact this
 have d5:w3.cell? ⟨g',1+4,none⟩=some (.slice va' vl' vc'):=by have:=hcc 5 Zo;rw[hcells,hvv] at this;exact this
 have d6:w3.cell? ⟨g',1+5,none⟩=some (.slice ua' ul' uc'):=by have:=hcc 6 Zo;rw[hcells,huv] at this;exact this
 have d7:w3.cell? ⟨g',1+6,none⟩=some (.slice na' nl' nc'):=by have:=hcc 7 Zo;rw[hcells,hnv] at this;exact this
 have zg:=clt d1
 obtain ⟨g3',cap3',hv3,hb3,hnc3,ho3,hc3,hf3⟩:=(H3.out.wk.rows 3 Zo Zo).form (by have:=D3.out;omega)
 have r37:rowZ 3=7:=rfl
 obtain ⟨x,hx3⟩:∃x,(R3 3)[0]?= some x:=⟨_,List.getElem?_eq_getElem D3.out⟩
 have hxl:x.length=7:=(H3.out.wk.rows 3 Zo Zo).len x (List.mem_of_getElem? hx3)
 obtain ⟨x0,x1,x2,x3,x4,x5,x6,rfl⟩:∃x0 x1 x2 x3 x4 x5 x6,x= [x0,x1,x2,x3,x4,x5,x6]:=by
  match x,hxl with
  | [x0,x1,x2,x3,x4,x5,x6],_=>exact ⟨x0,x1,x2,x3,x4,x5,x6,rfl⟩
 have z0:w3.cell? ⟨g3',0,none⟩=some x0:=by have:=hc3 0 _ 0 hx3 Zb;rw[r37,Nat.zero_mul,Nat.zero_add] at this;exact this
 have z1:w3.cell? ⟨g3',1,none⟩=some x1:=by have:=hc3 0 _ 1 hx3 Zb;rw[r37,Nat.zero_mul,Nat.zero_add] at this;exact this
 have z2:w3.cell? ⟨g3',2,none⟩=some x2:=by have:=hc3 0 _ 2 hx3 Zb;rw[r37,Nat.zero_mul,Nat.zero_add] at this;exact this
 have z3:w3.cell? ⟨g3',3,none⟩=some x3:=by have:=hc3 0 _ 3 hx3 Zb;rw[r37,Nat.zero_mul,Nat.zero_add] at this;exact this
 have z4:w3.cell? ⟨g3',4,none⟩=some x4:=by have:=hc3 0 _ 4 hx3 Zb;rw[r37,Nat.zero_mul,Nat.zero_add] at this;exact this
 have z5:w3.cell? ⟨g3',5,none⟩=some x5:=by have:=hc3 0 _ 5 hx3 Zb;rw[r37,Nat.zero_mul,Nat.zero_add] at this;exact this
 have z6:w3.cell? ⟨g3',6,none⟩=some x6:=by have:=hc3 0 _ 6 hx3 Zb;rw[r37,Nat.zero_mul,Nat.zero_add] at this;exact this
 obtain ⟨dn,hdn⟩:∃dn,(R3 3).length=dn+1:=⟨(R3 3).length-1,by have:=D3.out;omega⟩
 have b3:w3.cell? ⟨w.heap.size+1,3,none⟩=some (.slice (some ⟨g3',0,none⟩) (dn+1:Nat) cap3'):=by rw[H3.out.blk.cell,<-hdn,<-hv3];rfl
 clear hdn
 have zb3:=H3.out.blk.lt
 have zg3:=clt z0
 have n31:(0:Int) < (dn:Int)+1:=Zo
 have g3w:g3'≠w.heap.size+1:=fun e=>by have h9:=H3.out.wk.wpo;rw[<-e] at h9;omega
 have wg3:w.heap.size+1≠g3':=Ne.symm g3w
 have g3g:g3'≠g':=fun e=>by rw[e,ho] at ho3;omega
 have gg3:g'≠g3':=Ne.symm g3g
 have HCF:Hid (∀wx,Onw w3 wx->Calls Tryz.prog 26 #[.pointer (some ⟨w.heap.size+1,0,none⟩)] wx fun e w'=>e= .returned (.pointer (some ⟨g',0,none⟩))/\Onw wx w'):=fun wx o=>by
  obtain ⟨gq,cq,hvq,hq⟩:=fn_wk (H3.out.onw o).wk 0 L3.out Zo
  rw[hv2] at hvq
  simp only[Value.slice.injEq,Option.some.injEq,Addr.mk.injEq,and_true] at hvq
  rw[<-hvq.1,Nat.zero_mul] at hq
  exact hq
 have HX3:Hid _:=hx3
 have HV3:Hid _:=hv3
 have HF3:Hid _:=hf3
 clear hcall hv2 hv hnc ho hkk hcl hcc hfz hcells rv ru rn hus hvv huv hnv hv3 hb3 hnc3 ho3 hc3 hxl hx3 r37 hf3
 go_upto_region 5 with (fail)
 go_cut [] (fun wd=>∃R8,Ws w wd (w.heap.size+1) (.slice pa (n+1:Nat) pc) own3 V3 R8 (2+4000*szOf (pdOf pm) (n+1) n) (fun _=>0) (fun _=>true)/\∀j,j≠3->R8 j=R3 j)
 case first=>
  go_region_held3 (fun (w':World)=>w'.cell? ⟨w.heap.size+1,3,none⟩=some (.slice (some ⟨g3',0,none⟩) (dn+1:Nat) cap3')/\w'.cell? ⟨g',1,none⟩=some (.string nam)/\w'.cell? ⟨g',1+1,none⟩=some (.int .i64 ln)/\w'.cell? ⟨g',1+2,none⟩=some (.int .i64 pr)/\w'.cell? ⟨g',1+3,none⟩=some (.bool true)/\w'.cell? ⟨g',1+4,none⟩=some (.slice va' vl' vc')/\w'.cell? ⟨g',1+5,none⟩=some (.slice ua' ul' uc')/\w'.cell? ⟨g',1+6,none⟩=some (.slice na' nl' nc'))
   (first
    |with_reducible exact KE6.out
    |go_keep)
   (first
    |(go_at_call 26;refine (HCF.out _ (Below.drew (Onw.refl _))).mono ?_;rintro e w6 ⟨rfl,oo⟩;have o6:Onw w3 w6:=(Below.drew (Onw.refl w3)).trans oo;have hf3:=HF3.out;have y0:=con o6 z0;have y1:=con o6 z1;have y2:=con o6 z2;have y3:=con o6 z3;have y4:=con o6 z4;have y5:=con o6 z5;have y6:=con o6 z6;have q0:w6.frozen? ⟨g3',0,none⟩=false:=(World.frozen?_of_block (a:=⟨g3',0,none⟩) (o6.block g3' zg3)).trans (hf3 0);have q1:w6.frozen? ⟨g3',1,none⟩=false:=(World.frozen?_of_block (a:=⟨g3',1,none⟩) (o6.block g3' zg3)).trans (hf3 1);have q2:w6.frozen? ⟨g3',2,none⟩=false:=(World.frozen?_of_block (a:=⟨g3',2,none⟩) (o6.block g3' zg3)).trans (hf3 2);have q3:w6.frozen? ⟨g3',3,none⟩=false:=(World.frozen?_of_block (a:=⟨g3',3,none⟩) (o6.block g3' zg3)).trans (hf3 3);have q4:w6.frozen? ⟨g3',4,none⟩=false:=(World.frozen?_of_block (a:=⟨g3',4,none⟩) (o6.block g3' zg3)).trans (hf3 4);have q5:w6.frozen? ⟨g3',5,none⟩=false:=(World.frozen?_of_block (a:=⟨g3',5,none⟩) (o6.block g3' zg3)).trans (hf3 5);have q6:w6.frozen? ⟨g3',6,none⟩=false:=(World.frozen?_of_block (a:=⟨g3',6,none⟩) (o6.block g3' zg3)).trans (hf3 6);have zg6:=clt y0;have KE6:Hid (w6.cell? ⟨w.heap.size+1,3,none⟩=some (.slice (some ⟨g3',0,none⟩) (dn+1:Nat) cap3')/\w6.cell? ⟨g',1,none⟩=some (.string nam)/\w6.cell? ⟨g',1+1,none⟩=some (.int .i64 ln)/\w6.cell? ⟨g',1+2,none⟩=some (.int .i64 pr)/\w6.cell? ⟨g',1+3,none⟩=some (.bool true)/\w6.cell? ⟨g',1+4,none⟩=some (.slice va' vl' vc')/\w6.cell? ⟨g',1+5,none⟩=some (.slice ua' ul' uc')/\w6.cell? ⟨g',1+6,none⟩=some (.slice na' nl' nc')):=⟨con o6 b3,con o6 d1,con o6 d2,con o6 d3,con o6 d4,con o6 d5,con o6 d6,con o6 d7⟩;have H6:Hid _:=H3.out.onw o6;clear oo o6 hf3))
  go_wp2_with fail
  go_meet
  case rel=>
   obtain ⟨R8,q1,q2,q3,q4⟩:=H6.out.set3all (i:=0) HV3.out HX3.out (.string nam) (.int .i64 ln) (.int .i64 pr) (.bool true) (.slice va' vl' vc') (.slice ua' ul' uc') (.slice na' nl' nc')
   exact ⟨R8,q1,q3⟩
 case rest=>
  obtain ⟨R8,h8,e8⟩:=hcut
  have H8:Hid _:=h8
  have E8:Hid _:=e8
  clear h8 e8
  go_wp2_with fail
  go_ret
  exact ⟨w.heap.size+1,own3,V3,R8,_,s3,rfl,H8.out,A3.out.rows (fun j _ j3=>E8.out j j3),by rw[HSZ.out];omega,Q3.out⟩
end Go.Proofs.YtlibofjbhhdjdaaGreat
