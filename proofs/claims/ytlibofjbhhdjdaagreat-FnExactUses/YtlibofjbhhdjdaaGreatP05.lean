import Derived.Test.YtlibofjbhhdjdaaGreatQ
import Derived.Test.YtlibofjbhhdjdaaGreatP04
import Derived.Test.YtlibofjbhhdjdaaGreatP01
set_option linter.unusedSimpArgs false
set_option maxRecDepth 100000
set_option maxHeartbeats 16000000
namespace Go.Proofs.YtlibofjbhhdjdaaGreat
open Go.RowKit
attribute [local go_sem] rsf
variable {B l wp:Nat} {rs:Nat->Bool} {lp:Nat->Int} {R:Nat->List (List Value)} {own:Nat->Nat} {V:Nat->Value} {tv:Value} {w:World}
theorem info_l7name:(Tryz.prog.info? 155).map (fun i=>(i.zero,i.size,i.bytes))=some (some (.agg #[.string ByteArray.empty,.int .i64 0,.int .i64 0,.int .i64 0,.bool false,.int .i64 0,.int .i64 0,.int .i64 0,.float .f64 0,.string ByteArray.empty,.int .i64 0,.int .i64 0]),12,112):=by kernel_rfl
theorem declare_ws {w0 w:World}(h:Ws w0 w wp tv own V R B lp rs){n:Nat}{f:Nat->SNm}(hs:Scope (R 1) n f)(hl:(R 2).length=l+1)(part:Int)(na:Option Addr)(nn nc:Nat)(nm:Nat->ByteArray)(hB:B+4*nn<=16777216)(hnm:StrsAt w0 na nn nm):
  Calls Tryz.prog 60 #[.pointer (some ⟨wp,0,none⟩),.int .i64 part,.slice na nn nc] w fun e w'=>∃(oa:Option Addr) (oc:Nat) (vs:Nat->Int),e= .returned (.slice oa nn oc)/\∃own' V' R',Ws w0 w' wp tv own' V' R' (B+4*nn) lp rs/\Fr own own' w w'/\SameR (declR R f n part nm l vs nn) R'/\LRow w' w.heap.size own' oa nn oc:=by
 have HH:Hid _:=h
 have HS:Hid _:=hs
 have HL:Hid _:=hl
 have HN:Hid _:=hnm
 have hll:l+1<=16777216:=by have:=h.lens 2 Zo Zo;omega
 clear h hs hl hnm
 go_enter Tryz.func60,Tryz.ntmps60
 go_wp2_with fail
 go_loopw [7,14] (fun ov x wr=>∃(i:Nat) (own1:Nat->Nat) (V1:Nat->Value) (R1:Nat->List (List Value)) (oa:Option Addr) (oc:Nat) (ol:List (List Value)) (vs:Nat->Int),i<=nn/\x= .int .i64 i/\ov= .slice oa i oc/\Ws w0 wr wp tv own1 V1 R1 (B+4*i) lp rs/\Fr own own1 w wr/\SameR (declR R f n part nm l vs i) R1/\RowAt wr w.heap.size own1 0 3 1 (.slice oa i oc) ol/\ol.length=i/\∀y∈ol,∃q:Int,y= [.int .i64 q]) (fun _ x _=>nn-(intOf x).toNat)
 case atStart=>exact ⟨0,own,V,R,none,0, [],fun _=>0,Nat.zero_le _,rfl,rfl,HH.out,Fr.refl _ _,SameR.refl _,⟨World.ownsRow_nil _ _ _ _,fun x hx=>by simp at hx,fun g hg=>by simp[Value.ownBlock] at hg⟩,rfl,fun y hy=>by simp at hy⟩
 case round=>
  obtain ⟨i,own1,V1,R1,oa,oc,ol,vs,hi,rfl,rfl,h1,fr1,sr1,ro,hol,hq⟩:=hrel
  have HQ:Hid _:=hq
  clear hq
  have RO:Hid _:=ro
  have HOL:Hid _:=hol
  have FR1:Hid _:=fr1
  have SR1:Hid _:=sr1
  have l1:Hid ((R1 2).length=l+1):=by show _=_;rw[SR1.out.2,declR_2];exact HL.out
  have s1:Hid (Scope (R1 1) (n+i) (declF f n part nm l vs i)):=by
   show Scope _ _ _
   rw[SR1.out.1 1 Zo Zo];exact declR_1 HS.out part nm l vs i
  clear ro hol fr1 sr1
  by_cases hlt:i < nn
  ·obtain ⟨nb,no,hna,hcc⟩:=HN.out Zo
   have x0:=con h1.wk.ov (hcc i hlt)
   have zx:=clt x0
   subst hna
   clear hcc
   have ii:(i:Int) < (nn:Int):=Zo
   obtain ⟨g,cap,hv2,hcall⟩:=fn_wk h1.wk l l1.out hll
   go_wp2_with fail
   refine hcall.mono ?_
   rintro e wa ⟨rfl,oa1⟩
   have ha:=h1.onw oa1
   have fra:Hid _:=FR1.out.trans (Fr.onw oa1)
   have roa:Hid _:=RO.out.fr (Fr.onw oa1)
   clear hcall h1 x0 zx RO FR1 oa1
   obtain ⟨g',cap',cells,hv,hnc,ho,hk,hcl,hL,hcc,hfz⟩:=ha.level (k:=l) (by rw[l1.out];omega)
   have hg':g'=g:=Ze
   subst hg'
   obtain ⟨num,nam,ln,pr,vv,uv,nv,vls,us,ns,hcells,rv,ru,rn,hus,lv,lu,lnn⟩:=hL
   have c5:wa.cell? ⟨g',l*9+1+4,none⟩=some vv:=by rw[show l*9+1+4=l*9+5 by omega,hcc 5 Zo,hcells];rfl
   have f5:=hfz (l*9+1+4)
   have hne:vv.ownBlock≠some g':=fun e=>by have:=rv.mine g' e;omega
   have zg:=clt c5
   have hx:=rv.row
   have hlo:=ha.wk.ov.size
   have HA:Hid _:=ha
   have HK:Hid _:=hk
   have HV:Hid _:=hv
   have HC:Hid _:=hcells
   have HRV:Hid _:=rv
   have HRU:Hid _:=ru
   have HRN:Hid _:=rn
   have HUS:Hid _:=hus
   clear ha hk hv hv2 hcells hcc hfz rv ru rn hus hnc hcl ho
   obtain ⟨i0,hi0,hz0,hz1,hz2⟩:=info_parts info_string
   have N:=Blk.new wa 9 #[.string (nm i)]
   go_wp2_with (first|(at_builtin;refine wpList_app _ rfl (.tmp 26) (.tmp 28) 63 rfl w0.heap.size 9 i0 _ 1 16 Tryz.underlying63 hi0 hz0 hz1 hz2 rfl Zb vv vls.length vls.flatten rfl (hx.alloc _) ⟨wa.heap.size,0,none⟩ 1 1 [.string (nm i)] rfl rfl (fun j u hj=>by rw[Go.WideShapes.add_plain,N.cell,Nat.zero_add];simpa using hj) J262 Zb Zm Zo Zj ?_;intro g2 cap2 w2 hown hgrow hwhere;have q5:=hgrow.cell (con (Onw.alloc wa _) c5) (fun e=>hne e.symm);have f52:w2.frozen? ⟨g',l*9+1+4,none⟩=false:=(World.frozen?_of_block (a:=⟨g',l*9+1+4,none⟩) ((hgrow.block g' Zj (fun e=>hne e.symm)).trans (heap_alloc_old wa _ (show g' < wa.heap.size from zg)))).trans f5))
   have hk2:=HK.out
   rw[HC.out] at hk2
   obtain ⟨R2,h2,fr2,sr2⟩:=HA.out.pushV (k:=l) (x:= [.string (nm i)]) hk2 HV.out HRV.out HRU.out HRN.out HUS.out lv lu lnn rfl (Onw.alloc _ _) hown hgrow hwhere
   have frb:Hid _:=fra.out.trans fr2
   have rob:Hid _:=roa.out.fr fr2
   have srb:Hid (SameR (declR R f n part nm l vs i) R2):=SameR.trans SR1.out sr2
   have l2:Hid ((R2 2).length=l+1):=by show _=_;rw[sr2.2];exact l1.out
   have s2:Hid (Scope (R2 1) (n+i) (declF f n part nm l vs i)):=by
    show Scope _ _ _
    rw[sr2.1 1 Zo Zo];exact s1.out
   have H2:Hid _:=h2
   clear hk2 h2 fr2 sr2 fra roa SR1 l1 s1 HA HK HV HC HRV HRU HRN HUS q5 f52 hown hgrow hwhere c5 f5 hx N hne lv lu lnn zg hlo hi0 hz0 hz1 hz2
   generalize w2.setCell ⟨g',l*9+1+4,none⟩ (.slice (some ⟨g2,0,none⟩) (vls.length+1:Nat) cap2)=w3 at*
   refine (shadow_ws H2.out Zo s2.out l2.out part i (nm i)).mono ?_
   rintro e w4 ⟨rfl,own4,V4,R4,h4,fr4,sr4⟩
   have frc:Hid _:=frb.out.trans fr4
   have roc:Hid _:=rob.out.fr fr4
   have HS4:Hid (SameR _ R4):=sr4
   have H4:Hid _:=h4
   have B0:=h4.blk
   have hx:w4.ownsRow w0.heap.size 151 2 (V4 11) (R4 11).length (R4 11).flatten:=(h4.wk.rows 11 Zo Zo).row
   have hlen:=h4.lens 11 Zo Zo
   have hne:=h4.ne (j:=11) Zo Zo
   have hlo:=h4.wk.ov.size
   clear h4 fr4 sr4 frb rob
   have b11:=Blk.at_ B0 11 rfl
   have bf:=B0.free
   have zb:=B0.lt
   obtain ⟨i0,hi0,hz0,hz1,hz2⟩:=info_parts info_decl
   have N:=Blk.new w4 151 #[.int .i64 part,.int .i64 i]
   go_wp2_with (first|(at_builtin;refine wpList_app _ rfl (.tmp 49) (.tmp 53) 47 rfl w0.heap.size 151 i0 _ 2 16 Tryz.underlying47 hi0 hz0 hz1 hz2 rfl Zb (V4 11) (R4 11).length (R4 11).flatten rfl (World.ownsRow.alloc hx _) ⟨w4.heap.size,0,none⟩ 1 1 [.int .i64 part,.int .i64 i] rfl rfl (fun j u hj=>by rw[Go.WideShapes.add_plain,N.cell,Nat.zero_add];simpa using hj) J262 Zb Zm Zo Zj ?_;intro g3 cap3 w5 hown hgrow hwhere;have B2:=(hgrow.block wp Zj (fun e=>hne e.symm)).trans (B0.onw (Onw.alloc _ _));have bf2:=Blk.free B2;have b112:w5.cell? ⟨wp,11,none⟩=some (V4 11):=by rw[Blk.cell B2];rfl))
   obtain ⟨h6,fr6⟩:=H4.out.push (j:=11) Zo Zo Zo (x:= [.int .i64 part,.int .i64 i]) rfl (Onw.alloc _ _) hown hgrow hwhere
   have frd:Hid _:=frc.out.trans fr6
   have rod:Hid _:=roc.out.fr fr6
   have srd:Hid (SameR (pushR (noteR (declR R f n part nm l vs i) (shadowB (declF f n part nm l vs i) (n+i) (l+1) part (nm i)) [.int .i64 part,.int .i64 i,.int .i64 3]) 11 [.int .i64 part,.int .i64 i]) (pushR R4 11 [.int .i64 part,.int .i64 i])):=by
    refine SameR.push (SameR.trans ?_ HS4.out) 11 _ (by unfold noteR;cases shadowB (declF f n part nm l vs i) (n+i) (l+1) part (nm i) <;> (first|(show 0 < (declR R f n part nm l vs i 2).length;rw[declR_2,HL.out];omega)))
    unfold noteR
    cases shadowB (declF f n part nm l vs i) (n+i) (l+1) part (nm i)
    ·exact srb.out
    ·exact SameR.push srb.out 8 _ (by rw[declR_2,HL.out];omega)
   have l4:(R4 2).length=l+1:=by
    rw[HS4.out.2]
    unfold noteR
    cases shadowB (declF f n part nm l vs i) (n+i) (l+1) part (nm i)
    ·exact l2.out
    ·exact l2.out
   have l6:Hid ((pushR R4 11 [.int .i64 part,.int .i64 i] 2).length=l+1):=l4
   have H6:Hid _:=h6
   clear h6 fr6 frc roc HS4 H4 srb l2 s2 l4 B2 bf2 b112 hown hgrow hwhere N hx hlen hne hlo b11 bf zb B0 hi0 hz0 hz1 hz2 H2
   generalize pushR R4 11 [.int .i64 part,.int .i64 i]=R6 at*
   generalize setV V4 11 (.slice (some ⟨g3,0,none⟩) ((R4 11).length+1:Nat) cap3)=V6 at*
   generalize bump own4 w4.heap.size g3 (11+1)=own6 at*
   generalize w5.setCell ⟨wp,11,none⟩ (.slice (some ⟨g3,0,none⟩) ((R4 11).length+1:Nat) cap3)=w6 at*
   have h6:=H6.out
   obtain ⟨g7,cap7,hv2⟩:=h6.fns l6.out
   have B0:=h6.blk
   have b1:=Blk.at_ B0 1 rfl
   have b2:w6.cell? ⟨wp,2,none⟩=some (.slice (some ⟨g7,0,none⟩) (l+1:Nat) cap7):=by rw[B0.cell,<-hv2];rfl
   have bf:=B0.free
   have zb:=B0.lt
   have hx:w6.ownsRow w0.heap.size 155 12 (V6 1) (R6 1).length (R6 1).flatten:=(h6.wk.rows 1 Zo Zo).row
   have hlen:=h6.lens 1 Zo Zo
   have hne:=h6.ne (j:=1) Zo Zo
   have hlo:=h6.wk.ov.size
   clear h6 hv2
   obtain ⟨i1,hi1,hz0,hz1,hz2⟩:=info_parts info_l7name
   have hwl:IntKind.i64.wrap (l:Int)=(l:Int):=by rw[IntKind.wrap_i64];omega
   have N:=Blk.new w6.drew 155 #[.string (nm i),.int .i64 part,.int .i64 i,.int .i64 l,.bool false,.int .i64 0,.int .i64 0,.int .i64 0,.float .f64 0,.string {data:= #[]},.int .i64 0,.int .i64 vls.length]
   go_wp2_with fail
   go_region_law (first|(refine step_app rfl (.tmp 61) (.tmp 73) 43 rfl w0.heap.size 155 i1 _ 12 112 Tryz.underlying43 hi1 hz0 hz1 hz2 rfl Zb (V6 1) (R6 1).length (R6 1).flatten rfl ((World.ownsRow.drew hx).alloc _) ⟨w6.heap.size,0,none⟩ 1 1 [.string (nm i),.int .i64 part,.int .i64 i,.int .i64 l,.bool false,.int .i64 0,.int .i64 0,.int .i64 0,.float .f64 0,.string {data:= #[]},.int .i64 0,.int .i64 vls.length] rfl rfl (fun j u hj=>by rw[Go.WideShapes.add_plain];exact (Blk.cell N (0+j)).trans J288) J262 Zb Zm Zo (by show w0.heap.size<=(w6.drew.alloc _).heap.size;simp;omega) ?_;intro g8 cap8 w8 hown hgrow hwhere;have B2:=(hgrow.block wp Zj (fun e=>hne e.symm)).trans (B0.onw ((Below.drew (Onw.refl w6)).trans (Onw.alloc w6.drew _)));have bf2:=Blk.free B2;have b12:w8.cell? ⟨wp,1,none⟩=some (V6 1):=by rw[Blk.cell B2];rfl))
   all_goals
    obtain ⟨h9,fr9⟩:=H6.out.push (j:=1) Zo Zo Zo (x:=(varN (nm i) part i l vls.length).cells) rfl ((Below.drew (Onw.refl w6)).trans (Onw.alloc w6.drew _)) hown hgrow hwhere
    have fre:Hid _:=frd.out.trans fr9
    have roe:=rod.out.fr fr9
    have H9:Hid _:=h9
    have hxo:=roe.row
    have ROE:Hid _:=roe
    have hlo9:=h9.wk.ov.size
    clear h9 fr9 B2 bf2 b12 hown hgrow hwhere N hx hlen hne hlo b1 b2 bf zb B0 hi1 hz0 hz1 hz2 hwl roe
    have srf:Hid (SameR (declR R f n part nm l (fun k=>if k=i then (vls.length:Int) else vs k) (i+1)) (pushR R6 1 (varN (nm i) part i l vls.length).cells)):=by
     obtain ⟨e1,e2⟩:=decl_congr R f n part nm l (vs:=fun k=>if k=i then (vls.length:Int) else vs k) (vs':=vs) i (fun k hk=>if_neg Zo)
     show SameR _ _
     rw[declR,e1,e2]
     simp only[if_true]
     exact SameR.push srd.out 1 _ (by unfold noteR;cases shadowB (declF f n part nm l vs i) (n+i) (l+1) part (nm i) <;> (first|(show 0 < (declR R f n part nm l vs i 2).length;rw[declR_2,HL.out];omega)))
    generalize pushR R6 1 (varN (nm i) part i l vls.length).cells=R9 at*
    generalize setV V6 1 (.slice (some ⟨g8,0,none⟩) ((R6 1).length+1:Nat) cap8)=V9 at*
    generalize bump own6 w6.heap.size g8 (1+1)=own9 at*
    generalize w8.setCell ⟨wp,1,none⟩ (.slice (some ⟨g8,0,none⟩) ((R6 1).length+1:Nat) cap8)=w9 at*
    obtain ⟨i2,hi2,hy0,hy1,hy2⟩:=info_parts info_int
    have N:=Blk.new w9 3 #[.int .i64 vls.length]
    rw[HOL.out] at hxo
    have hszw:w.heap.size<=w9.heap.size:=fre.out.size
    go_wp2_with (first|(at_builtin;refine wpList_app _ rfl (.tmp 77) (.tmp 79) 64 rfl w.heap.size 3 i2 _ 1 8 Tryz.underlying64 hi2 hy0 hy1 hy2 rfl Zb (.slice oa i oc) i ol.flatten rfl (World.ownsRow.alloc hxo _) ⟨w9.heap.size,0,none⟩ 1 1 [.int .i64 vls.length] rfl rfl (fun j u hj=>by rw[Go.WideShapes.add_plain,N.cell,Nat.zero_add];simpa using hj) J262 Zb Zm Zo Zj ?_;intro g10 cap10 w10 hown hgrow hwhere))
    go_roundw
    case rel=>
     have hrow:∀x,(Value.slice oa i oc).ownBlock=some x->own9 x=0/\w.heap.size<=x:=fun x hx=>⟨ROE.out.mine x hx,(ROE.out.row.lt x hx).1⟩
     have hlo':w0.heap.size<=w.heap.size:=HH.out.wk.ov.size
     have hgs:=hgrow.size
     simp only[World.size_alloc] at hgs
     refine ⟨i+1,own9,V9,R9,some ⟨g10,0,none⟩,cap10,ol++ [[.int .i64 vls.length]],fun k=>if k=i then (vls.length:Int) else vs k,by omega,by go_num,rfl,?_,?_,srf.out,?_,by rw[List.length_append,HOL.out];rfl,fun y hy=>(List.mem_append.1 hy).elim (HQ.out y) (fun h=>⟨_,List.mem_singleton.1 h⟩)⟩
     ·have:=(H9.out.loc (Onw.alloc _ _) hgrow (fun x hx=>⟨(hrow x hx).1,by have:=(hrow x hx).2;omega⟩)).more (B':=B+4*(i+1)) Zo
      exact this
     ·exact J114
     ·exact ROE.out.app HOL.out rfl H9.out.wk.high (Onw.alloc _ _) hown hwhere
    case measure=>simp[intOf];omega
  ·obtain rfl:i=nn:=Zo
   go_wp2_with fail
   go_ret
   exact ⟨oa,oc,vs,rfl,own1,V1,R1,h1,FR1.out,SR1.out,ol,RO.out,HOL.out,HQ.out⟩
theorem info_up:(Tryz.prog.info? 227).map (fun i=>(i.zero,i.size,i.bytes))=some (some (.agg #[.bool false,.int .i64 0]),2,16):=by kernel_rfl
theorem up_ws {w0 w:World}(h:Ws w0 w wp tv own V R B lp rs)(hl:(R 2).length=l+1)(x:SNm)(xf:Nat)(hxf:x.fn=xf)(hxl:xf<=l)(hB:B+(l+1)<=16777216):
  Calls Tryz.prog 110 #[.pointer (some ⟨wp,0,none⟩),.agg #[.string x.name,.int .i64 x.part,.int .i64 x.place,.int .i64 x.fn,.bool x.fixed,.int .i64 x.code,.int .i64 x.kind,.int .i64 x.num,.float .f64 x.flt,.string x.str,.int .i64 x.ref,.int .i64 x.v]] w fun e w'=>∃r:Int,e= .returned (.int .i64 r)/\Post w0 wp tv own w R (B+(l+1)) lp rs w':=by
 rw[hxf]
 have X0:=Blk.new w 155 #[.string x.name,.int .i64 x.part,.int .i64 x.place,.int .i64 xf,.bool x.fixed,.int .i64 x.code,.int .i64 x.kind,.int .i64 x.num,.float .f64 x.flt,.string x.str,.int .i64 x.ref,.int .i64 x.v]
 have O0:=Onw.alloc w (Obj.cells #[.string x.name,.int .i64 x.part,.int .i64 x.place,.int .i64 xf,.bool x.fixed,.int .i64 x.code,.int .i64 x.kind,.int .i64 x.num,.float .f64 x.flt,.string x.str,.int .i64 x.ref,.int .i64 x.v] 155)
 have HH:Hid _:=h
 have HL:Hid _:=hl
 clear h hl hxf
 go_enter Tryz.func110,Tryz.ntmps110
 go_wp2_with fail
 have hA:=HH.out.onw O0
 have o0:own w.heap.size=0:=HH.out.wk.high _ (Nat.le_refl _)
 have zA:w.heap.size < (w.alloc (Obj.cells #[.string x.name,.int .i64 x.part,.int .i64 x.place,.int .i64 xf,.bool x.fixed,.int .i64 x.code,.int .i64 x.kind,.int .i64 x.num,.float .f64 x.flt,.string x.str,.int .i64 x.ref,.int .i64 x.v] 155)).heap.size:=J269
 have hll:l+1<=16777216:=Zo
 generalize w.alloc (Obj.cells #[.string x.name,.int .i64 x.part,.int .i64 x.place,.int .i64 xf,.bool x.fixed,.int .i64 x.code,.int .i64 x.kind,.int .i64 x.num,.float .f64 x.flt,.string x.str,.int .i64 x.ref,.int .i64 x.v] 155)=wA at*
 go_loopw [5,6] (fun av kv wr=>∃(k:Nat) (av':Int) (own1:Nat->Nat) (V1:Nat->Value) (R1:Nat->List (List Value)),xf+1<=k/\(k<=l+1\/k=xf+1)/\av= .int .i64 av'/\kv= .int .i64 k/\Ws w0 wr wp tv own1 V1 R1 (B+(k-(xf+1))) lp rs/\Fr own own1 wA wr/\SameR R R1) (fun _ kv _=>l+1-(intOf kv).toNat)
 case atStart=>exact ⟨xf+1,0,own,V,R,Nat.le_refl _,Or.inr rfl,rfl,by first|rfl|(simp;done),by rw[Nat.sub_self];exact hA,Fr.refl _ _,SameR.refl _⟩
 case round=>
  obtain ⟨k,av',own1,V1,R1,hk0,hk1,rfl,rfl,h1,fr1,sr1⟩:=hrel
  have XB:Blk _ w.heap.size 155 #[.string x.name,.int .i64 x.part,.int .i64 x.place,.int .i64 xf,.bool x.fixed,.int .i64 x.code,.int .i64 x.kind,.int .i64 x.num,.float .f64 x.flt,.string x.str,.int .i64 x.ref,.int .i64 x.v]:=(fr1.kept w.heap.size ⟨zA,o0⟩).trans X0
  have FR1:Hid _:=fr1
  have SR1:Hid (SameR R R1):=sr1
  have l1:(R1 2).length=l+1:=by rw[sr1.2];exact HL.out
  clear fr1 sr1
  obtain ⟨g,cap,hv2⟩:=h1.fns l1
  have b2:wr.cell? ⟨wp,2,none⟩=some (.slice (some ⟨g,0,none⟩) (l+1:Nat) cap):=by rw[h1.blk.cell,<-hv2];rfl
  have zb:=h1.blk.lt
  have zx:=XB.lt
  by_cases hlt:k < l+1
  ·obtain ⟨g',cap',cells,hv,hnc,ho,hkk,hcl,hL,hcc,hfz⟩:=h1.level (k:=k) Zo
   have hg':g'=g:=Ze
   subst hg'
   obtain ⟨num,nam,ln,pr,vv,uv,nv,vls,us,ns,hcells,rv,ru,rn,hus,lv,lu,lnn⟩:=hL
   have c6:wr.cell? ⟨g',k*9+1+5,none⟩=some uv:=by rw[show k*9+1+5=k*9+6 by omega,hcc 6 Zo,hcells];rfl
   have f6:=hfz (k*9+1+5)
   have hne:uv.ownBlock≠some g':=fun e=>by have:=ru.mine g' e;omega
   have zg:=clt c6
   have gw:g'≠wp:=fun e=>by have h9:=h1.wk.wpo;rw[<-e] at h9;omega
   have wg:wp≠g':=Ne.symm gw
   have x3:=Blk.at_ XB 3 rfl
   have x11:=Blk.at_ XB 11 rfl
   obtain ⟨ua,uc,huv⟩:∃ua uc,uv= .slice ua us.length uc:=by
    rcases ru.row.2 with ⟨e1,e2⟩|⟨gg,cc,cur,e1,_⟩
    ·exact ⟨none,0,by rw[e1,e2]⟩
    ·exact ⟨some ⟨gg,0,none⟩,cc,e1⟩
   have H1:Hid _:=h1
   have HK:Hid _:=hkk
   have HV:Hid _:=hv
   have HC:Hid _:=hcells
   have HRV:Hid _:=rv
   have HRU:Hid _:=ru
   have HRN:Hid _:=rn
   have HUS:Hid _:=hus
   have HL1:Hid _:=l1
   have HUV:Hid _:=huv
   have HC6:Hid _:=c6
   rw[huv] at c6
   clear h1 hkk hv hv2 hcells hcc hfz rv ru rn hus hnc hcl ho l1 huv
   have kk:(k:Int) < (l:Int)+1:=Zo
   have k0:(0:Int)<=(k:Int):=Zo
   obtain ⟨wB,hwB⟩:∃y,y=wr:=⟨_,rfl⟩
   subst hwB
   by_cases hke:k=xf+1
   ·have hd:((k:Int)==(xf:Int)+1)=true:=J275
    clear hke
    go_wp2_with fail
    have N:=Blk.new wB 227 #[.bool true,.int .i64 x.v]
    have oB:=Onw.alloc wB (Obj.cells #[.bool true,.int .i64 x.v] 227)
    have hC:Hid _:=H1.out.onw oB
    replace b2:=con oB b2
    replace c6:=con oB c6
    replace zb:=Nat.lt_of_lt_of_le zb oB.size
    clear x3 x11 zg zx XB
    generalize wB.alloc (Obj.cells #[.bool true,.int .i64 x.v] 227)=wC at*
    go_loopw [8,45] (fun fv jv wr2=>∃(j:Nat) (fd:Int),j<=us.length/\jv= .int .i64 j/\fv= .int .i64 fd/\-1<=fd/\fd < us.length/\Onw wC wr2) (fun _ jv _=>us.length-(intOf jv).toNat)
    case atStart=>exact ⟨0,-1,Nat.zero_le _,rfl,rfl,by omega,by omega,Onw.refl _⟩
    case round=>
     obtain ⟨j,fd,hj,rfl,rfl,hf0,hf1,oC⟩:=hrel
     have NB:=N.onw oC
     by_cases hjt:j < us.length
     ·obtain ⟨gu,cu,hvu,_,_,_,hcu,_⟩:=HRU.out.form Zo
      rw[HUV.out] at hvu
      simp only[Value.slice.injEq,true_and] at hvu
      obtain ⟨rfl,rfl⟩:=hvu
      obtain ⟨y,hy⟩:∃y,us[j]?= some y:=⟨us[j],by simp[hjt]⟩
      obtain ⟨b',i',rfl⟩:=HUS.out y (List.mem_of_getElem? hy)
      have u0:=con oC (con oB ((hcu j _ 0 hy Zo).trans rfl))
      have u1:=con oC (con oB ((hcu j _ 1 hy Zo).trans rfl))
      simp only[Nat.add_zero] at u0
      clear hcu hy
      have zu:=clt u0
      have zn:=NB.lt
      have m0:=Blk.at_ NB 0 rfl
      have m1:=Blk.at_ NB 1 rfl
      have jj:(j:Int) < (us.length:Int):=Zo
      by_cases hb':b'=true
      ·subst hb'
       cases c1:(i'==x.v)
       ·exact J67
       ·exact J113
      ·obtain rfl:b'=false:=by cases b' <;> simp_all
       exact J67
     ·by_cases hfd:fd < 0
      ·have hdf:decide (fd < 0)=true:=decide_eq_true hfd
       have b2':=con oC b2
       have c6':=con oC c6
       have zb':wp < wr.heap.size:=Nat.lt_of_lt_of_le zb oC.size
       have zn:=NB.lt
       have m0:=Blk.at_ NB 0 rfl
       have m1:=Blk.at_ NB 1 rfl
       have oW:=oB.trans oC
       have H2:Hid _:=H1.out.onw oW
       have ru2:RowAt wr w0.heap.size own1 (101+3*k) 227 2 uv us:=HRU.out.kept (p:=fun q=>q < wB.heap.size) (fun q hq=>oW.block q hq) (fun q hq=>(HRU.out.row.lt q hq).2) (fun _ _=>rfl)
       have rv2:Hid (RowAt wr w0.heap.size own1 (100+3*k) 9 1 vv vls):=HRV.out.kept (p:=fun q=>q < wB.heap.size) (fun q hq=>oW.block q hq) (fun q hq=>(HRV.out.row.lt q hq).2) (fun _ _=>rfl)
       have rn2:Hid (RowAt wr w0.heap.size own1 (102+3*k) 97 8 nv ns):=HRN.out.kept (p:=fun q=>q < wB.heap.size) (fun q hq=>oW.block q hq) (fun q hq=>(HRN.out.row.lt q hq).2) (fun _ _=>rfl)
       have hx:=ru2.row
       have RU2:Hid _:=ru2
       have f6':wr.frozen? ⟨g',k*9+1+5,none⟩=false:=(World.frozen?_of_block (a:=⟨g',k*9+1+5,none⟩) (oW.block g' (clt (HC6.out)))).trans f6
       have zg':=clt c6'
       have hlo:=H2.out.wk.ov.size
       have hne2:uv.ownBlock≠some wp:=fun e=>by have:=RU2.out.mine wp e;have:=H2.out.wk.wpo;omega
       have bw:=H2.out.blk
       obtain ⟨i0,hi0,hz0,hz1,hz2⟩:=info_parts info_up
       have N2:=Blk.new wr.drew 227 #[.bool true,.int .i64 x.v]
       rw[HUV.out] at hx hne hne2
       clear ru2
       go_wp2_with fail
       have gB:g'≠wB.heap.size:=Nat.ne_of_lt (clt HC6.out)
       have Bg:wB.heap.size≠g':=Ne.symm gB
       have hneB:(Value.slice ua us.length uc).ownBlock≠some wB.heap.size:=fun e=>by have h1:=RU2.out.mine wB.heap.size (by rw[HUV.out];exact e);have h2:=H1.out.wk.high wB.heap.size (Nat.le_refl _);omega
       refine wp_region_held_drew (S:=(fun w'=>w'.cell? ⟨wp,2,none⟩=some (.slice (some ⟨g',0,none⟩) (l+1:Nat) cap)/\w'.cell? ⟨wB.heap.size,0,none⟩=some (.bool true)/\w'.cell? ⟨wB.heap.size,1,none⟩=some (.int .i64 x.v))) (by kernel_rfl) J292 (fun hHeld=>?_)
       refine tk 0 ?_
       refine tk 1 ?_
       refine tk 2 ?_
       refine tk 3 ?_
       refine tk 4 ?_
       refine tk 5 ?_
       refine tk 6 ?_
       refine tk 7 ?_
       refine tk 8 ?_
       refine tk 9 ?_
       refine tk 10 ?_
       refine tk 11 ?_
       refine tk 12 ?_
       refine tk 14 ?_
       refine rd [13,15] ?_
       refine AllReadyH.cons rfl (fun K hK=>?_) ?_
       ·simp only[gA,gB,gC]
        go_simp
        refine hK.out _ _ J292 (fun hHeld=>?_)
        clear hK K
        try simp only[gA,gB,gC,Act.put,gD,gE,gF]
        refine rd [15] ?_
        exact J21
       refine AllReadyH.cons rfl (fun K hK=>?_) ?_
       ·simp only[gA,gB,gC]
        go_simp
        refine hK.out _ _ J292 (fun hHeld=>?_)
        clear hK K
        try simp only[gA,gB,gC,Act.put,gD,gE,gF]
        refine rd [13] ?_
        exact J21
       exact AllReadyH.nil
      ·exact J89
   ·have hd:((k:Int)==(xf:Int)+1)=false:=Zd
    clear hke
    go_wp2_with fail
    have N:=Blk.new wB 227 #[.bool false,.int .i64 av']
    have oB:=Onw.alloc wB (Obj.cells #[.bool false,.int .i64 av'] 227)
    have hC:Hid _:=H1.out.onw oB
    replace b2:=con oB b2
    replace c6:=con oB c6
    replace zb:=Nat.lt_of_lt_of_le zb oB.size
    clear x3 x11 zg zx XB
    generalize wB.alloc (Obj.cells #[.bool false,.int .i64 av'] 227)=wC at*
    go_loopw [8,45] (fun fv jv wr2=>∃(j:Nat) (fd:Int),j<=us.length/\jv= .int .i64 j/\fv= .int .i64 fd/\-1<=fd/\fd < us.length/\Onw wC wr2) (fun _ jv _=>us.length-(intOf jv).toNat)
    case atStart=>exact ⟨0,-1,Nat.zero_le _,rfl,rfl,by omega,by omega,Onw.refl _⟩
    case round=>
     obtain ⟨j,fd,hj,rfl,rfl,hf0,hf1,oC⟩:=hrel
     have NB:=N.onw oC
     by_cases hjt:j < us.length
     ·obtain ⟨gu,cu,hvu,_,_,_,hcu,_⟩:=HRU.out.form Zo
      rw[HUV.out] at hvu
      simp only[Value.slice.injEq,true_and] at hvu
      obtain ⟨rfl,rfl⟩:=hvu
      obtain ⟨y,hy⟩:∃y,us[j]?= some y:=⟨us[j],by simp[hjt]⟩
      obtain ⟨b',i',rfl⟩:=HUS.out y (List.mem_of_getElem? hy)
      have u0:=con oC (con oB ((hcu j _ 0 hy Zo).trans rfl))
      have u1:=con oC (con oB ((hcu j _ 1 hy Zo).trans rfl))
      simp only[Nat.add_zero] at u0
      clear hcu hy
      have zu:=clt u0
      have zn:=NB.lt
      have m0:=Blk.at_ NB 0 rfl
      have m1:=Blk.at_ NB 1 rfl
      have jj:(j:Int) < (us.length:Int):=Zo
      by_cases hb':b'=false
      ·subst hb'
       cases c1:(i'==av')
       ·exact J67
       ·exact J113
      ·obtain rfl:b'=true:=by cases b' <;> simp_all
       exact J67
     ·by_cases hfd:fd < 0
      ·have hdf:decide (fd < 0)=true:=decide_eq_true hfd
       have b2':=con oC b2
       have c6':=con oC c6
       have zb':wp < wr.heap.size:=Nat.lt_of_lt_of_le zb oC.size
       have zn:=NB.lt
       have m0:=Blk.at_ NB 0 rfl
       have m1:=Blk.at_ NB 1 rfl
       have oW:=oB.trans oC
       have H2:Hid _:=H1.out.onw oW
       have ru2:RowAt wr w0.heap.size own1 (101+3*k) 227 2 uv us:=HRU.out.kept (p:=fun q=>q < wB.heap.size) (fun q hq=>oW.block q hq) (fun q hq=>(HRU.out.row.lt q hq).2) (fun _ _=>rfl)
       have rv2:Hid (RowAt wr w0.heap.size own1 (100+3*k) 9 1 vv vls):=HRV.out.kept (p:=fun q=>q < wB.heap.size) (fun q hq=>oW.block q hq) (fun q hq=>(HRV.out.row.lt q hq).2) (fun _ _=>rfl)
       have rn2:Hid (RowAt wr w0.heap.size own1 (102+3*k) 97 8 nv ns):=HRN.out.kept (p:=fun q=>q < wB.heap.size) (fun q hq=>oW.block q hq) (fun q hq=>(HRN.out.row.lt q hq).2) (fun _ _=>rfl)
       have hx:=ru2.row
       have RU2:Hid _:=ru2
       have f6':wr.frozen? ⟨g',k*9+1+5,none⟩=false:=(World.frozen?_of_block (a:=⟨g',k*9+1+5,none⟩) (oW.block g' (clt (HC6.out)))).trans f6
       have zg':=clt c6'
       have hlo:=H2.out.wk.ov.size
       have hne2:uv.ownBlock≠some wp:=fun e=>by have:=RU2.out.mine wp e;have:=H2.out.wk.wpo;omega
       have bw:=H2.out.blk
       obtain ⟨i0,hi0,hz0,hz1,hz2⟩:=info_parts info_up
       have N2:=Blk.new wr.drew 227 #[.bool false,.int .i64 av']
       rw[HUV.out] at hx hne hne2
       clear ru2
       go_wp2_with fail
       have gB:g'≠wB.heap.size:=Nat.ne_of_lt (clt HC6.out)
       have Bg:wB.heap.size≠g':=Ne.symm gB
       have hneB:(Value.slice ua us.length uc).ownBlock≠some wB.heap.size:=fun e=>by have h1:=RU2.out.mine wB.heap.size (by rw[HUV.out];exact e);have h2:=H1.out.wk.high wB.heap.size (Nat.le_refl _);omega
       refine wp_region_held_drew (S:=(fun w'=>w'.cell? ⟨wp,2,none⟩=some (.slice (some ⟨g',0,none⟩) (l+1:Nat) cap)/\w'.cell? ⟨wB.heap.size,0,none⟩=some (.bool false)/\w'.cell? ⟨wB.heap.size,1,none⟩=some (.int .i64 av'))) (by kernel_rfl) J292 (fun hHeld=>?_)
       refine tk 0 ?_
       refine tk 1 ?_
       refine tk 2 ?_
       refine tk 3 ?_
       refine tk 4 ?_
       refine tk 5 ?_
       refine tk 6 ?_
       refine tk 7 ?_
       refine tk 8 ?_
       refine tk 9 ?_
       refine tk 10 ?_
       refine tk 11 ?_
       refine tk 12 ?_
       refine tk 14 ?_
       refine rd [13,15] ?_
       refine AllReadyH.cons rfl (fun K hK=>?_) ?_
       ·simp only[gA,gB,gC]
        go_simp
        refine hK.out _ _ J292 (fun hHeld=>?_)
        clear hK K
        try simp only[gA,gB,gC,Act.put,gD,gE,gF]
        refine rd [15] ?_
        exact J20
       refine AllReadyH.cons rfl (fun K hK=>?_) ?_
       ·simp only[gA,gB,gC]
        go_simp
        refine hK.out _ _ J292 (fun hHeld=>?_)
        clear hK K
        try simp only[gA,gB,gC,Act.put,gD,gE,gF]
        refine rd [13] ?_
        exact J20
       exact AllReadyH.nil
      ·exact J89
  ·have H1:Hid _:=h1
   clear h1 hv2
   go_wp2_with fail
   go_ret
   exact ⟨av',rfl,own1,V1,R1,H1.out.more Zo,(Fr.onw O0).trans FR1.out,SR1.out⟩
end Go.Proofs.YtlibofjbhhdjdaaGreat
namespace Go.Proofs.YtlibofjbhhdjdaaGreat
open Go.RowKit
variable {B b wp:Nat} {rs:Nat->Bool} {lp:Nat->Int} {R R1:Nat->List (List Value)} {own:Nat->Nat} {tv:Value} {w w' w0:World}
def snm0:SNm:=⟨ByteArray.empty,0,0,0,false,0,0,0,0,ByteArray.empty,0,0⟩
structure St where
 sc:List SNm
 uses:List (List Value)
 consts:List (List Value)
 closed:List (Int×Int)
 faults:List (List Value)
 notes:List (List Value)
 reads:List (List Value)
 writes:List (List Value)
 decls:List (List Value)
def scF (sc:List SNm):Nat->SNm:=fun i=>sc.getD i snm0
def clF (cl:List (Int×Int)):Nat->Int×Int:=fun i=>cl.getD i (0,0)
def pairC (p:Int×Int):List Value:= [.int .i64 p.1,.int .i64 p.2]
structure St.At (s:St) (R:Nat->List (List Value)):Prop where
 r1:R 1=s.sc.map SNm.cells
 r4:R 4=s.uses
 r5:R 5=s.consts
 r6:R 6=s.closed.map pairC
 r7:R 7=s.faults
 r8:R 8=s.notes
 r9:R 9=s.reads
 r10:R 10=s.writes
 r11:R 11=s.decls
theorem St.At.scope {s:St}(h:s.At R):Scope (R 1) s.sc.length (scF s.sc):=by
 refine ⟨by rw[h.r1,List.length_map],fun i hi=>?_⟩
 rw[h.r1,List.getElem?_map,List.getElem?_eq_getElem hi]
 simp[scF,hi]
theorem St.At.pairs {s:St}(h:s.At R):Pairs (R 6) s.closed.length (clF s.closed):=by
 refine ⟨by rw[h.r6,List.length_map],fun i hi=>?_⟩
 rw[h.r6,List.getElem?_map,List.getElem?_eq_getElem hi]
 simp[clF,hi,pairC]
theorem St.At.same {s:St}{R R':Nat->List (List Value)}(h:s.At R)(k:SameR R R'):s.At R':=
 ⟨by rw[k.rows 1 Zo Zo];exact h.r1,by rw[k.rows 4 Zo Zo];exact h.r4,by rw[k.rows 5 Zo Zo];exact h.r5,by rw[k.rows 6 Zo Zo];exact h.r6,by rw[k.rows 7 Zo Zo];exact h.r7,by rw[k.rows 8 Zo Zo];exact h.r8,by rw[k.rows 9 Zo Zo];exact h.r9,by rw[k.rows 10 Zo Zo];exact h.r10,by rw[k.rows 11 Zo Zo];exact h.r11⟩
def St.fault (s:St) (c p:Int):St:={s with faults:=s.faults++ [[.int .i64 c,.int .i64 p]]}
def St.note (s:St) (p q c:Int):St:={s with notes:=s.notes++ [[.int .i64 p,.int .i64 q,.int .i64 c]]}
def St.use (s:St) (p k d q:Int):St:={s with uses:=s.uses++ [[.int .i64 p,.int .i64 k,.int .i64 d,.int .i64 q]]}
def St.read (s:St) (p q:Int):St:={s with reads:=s.reads++ [[.int .i64 p,.int .i64 q]]}
def St.write (s:St) (p q:Int):St:={s with writes:=s.writes++ [[.int .i64 p,.int .i64 q]]}
def St.decl (s:St) (p q:Int):St:={s with decls:=s.decls++ [[.int .i64 p,.int .i64 q]]}
def St.name (s:St) (x:SNm):St:={s with sc:=s.sc++ [x]}
def St.close (s:St) (a b:Int):St:=bif closedB (clF s.closed) a b 0 s.closed.length then s else {s with closed:=s.closed++ [(a,b)]}
def St.cut (s:St) (m:Nat):St:={s with sc:=s.sc.take m}
theorem St.At.fault {s:St}(h:s.At R)(c p:Int):(s.fault c p).At (pushR R 7 [.int .i64 c,.int .i64 p]):=
 ⟨h.r1,h.r4,h.r5,h.r6,congrArg (·++_) h.r7,h.r8,h.r9,h.r10,h.r11⟩
theorem St.At.note {s:St}(h:s.At R)(p q c:Int):(s.note p q c).At (pushR R 8 [.int .i64 p,.int .i64 q,.int .i64 c]):=
 ⟨h.r1,h.r4,h.r5,h.r6,h.r7,congrArg (·++_) h.r8,h.r9,h.r10,h.r11⟩
theorem St.At.use {s:St}(h:s.At R)(p k d q:Int):(s.use p k d q).At (pushR R 4 [.int .i64 p,.int .i64 k,.int .i64 d,.int .i64 q]):=
 ⟨h.r1,congrArg (·++_) h.r4,h.r5,h.r6,h.r7,h.r8,h.r9,h.r10,h.r11⟩
theorem St.At.read {s:St}(h:s.At R)(p q:Int):(s.read p q).At (pushR R 9 [.int .i64 p,.int .i64 q]):=
 ⟨h.r1,h.r4,h.r5,h.r6,h.r7,h.r8,congrArg (·++_) h.r9,h.r10,h.r11⟩
theorem St.At.write {s:St}(h:s.At R)(p q:Int):(s.write p q).At (pushR R 10 [.int .i64 p,.int .i64 q]):=
 ⟨h.r1,h.r4,h.r5,h.r6,h.r7,h.r8,h.r9,congrArg (·++_) h.r10,h.r11⟩
theorem St.At.decl {s:St}(h:s.At R)(p q:Int):(s.decl p q).At (pushR R 11 [.int .i64 p,.int .i64 q]):=
 ⟨h.r1,h.r4,h.r5,h.r6,h.r7,h.r8,h.r9,h.r10,congrArg (·++_) h.r11⟩
theorem St.At.name {s:St}(h:s.At R)(x:SNm):(s.name x).At (pushR R 1 x.cells):=
 ⟨by show R 1++_=_;rw[h.r1];simp[St.name],h.r4,h.r5,h.r6,h.r7,h.r8,h.r9,h.r10,h.r11⟩
theorem St.At.close {s:St}(h:s.At R)(a b:Int):(s.close a b).At (closeR R (closedB (clF s.closed) a b 0 s.closed.length) [.int .i64 a,.int .i64 b]):=by
 unfold St.close closeR
 cases closedB (clF s.closed) a b 0 s.closed.length
 ·exact ⟨h.r1,h.r4,h.r5,by show R 6++_=_;rw[h.r6];simp[pairC],h.r7,h.r8,h.r9,h.r10,h.r11⟩
 ·exact h
def St.declare (s:St) (part:Int) (nm:Nat->ByteArray) (l:Nat) (vs:Nat->Int):Nat->St
 |0=>s
 |c+1=>(((fun t:St=>bif shadowB (scF t.sc) t.sc.length (l+1) part (nm c) then t.note part c 3 else t) (s.declare part nm l vs c)).decl part c).name (varN (nm c) part c l (vs c))
theorem scF_append_lt (a b:List SNm){i:Nat}(h:i < a.length):scF (a++b) i=scF a i:=by
 simp only[scF]
 rw[List.getD_eq_getElem?_getD,List.getD_eq_getElem?_getD,List.getElem?_append_left h]
theorem findS_congr {f g:Nat->SNm}{name:ByteArray}:∀{n:Nat},(∀i,i < n->f i=g i)->findS f name n=findS g name n
 |0,_=>rfl
 |n+1,h=>by rw[findS,findS,h n Zo,findS_congr (fun i hi=>h i Zo)]
theorem shadowB_congr {f g:Nat->SNm}{name:ByteArray}{n nf:Nat}{part:Int}(h:∀i,i < n->f i=g i):shadowB f n nf part name=shadowB g n nf part name:=by
 unfold shadowB
 rw[<-findS_congr h]
 rcases findS_cases f name n with e|⟨k,hk,e⟩
 ·rw[e];rfl
 ·rw[e,show ((k:Int)).toNat=k from rfl,h k hk]
theorem St.declare_sc (s:St)(part:Int)(nm:Nat->ByteArray)(l:Nat)(vs:Nat->Int):∀c,(s.declare part nm l vs c).sc.length=s.sc.length+c
 |0=>rfl
 |c+1=>by
  have ih:=St.declare_sc s part nm l vs c
  simp only[St.declare,St.name,St.decl]
  cases shadowB (scF (s.declare part nm l vs c).sc) (s.declare part nm l vs c).sc.length (l+1) part (nm c)
  ·simp[ih];omega
  ·simp[St.note,ih];omega
theorem declF_scF (s:St)(part:Int)(nm:Nat->ByteArray)(l:Nat)(vs:Nat->Int):∀c i,i < s.sc.length+c->declF (scF s.sc) s.sc.length part nm l vs c i=scF (s.declare part nm l vs c).sc i
 |0,_,_=>rfl
 |c+1,i,hi=>by
  have hl:=St.declare_sc s part nm l vs c
  have e:(s.declare part nm l vs (c+1)).sc=(s.declare part nm l vs c).sc++ [varN (nm c) part c l (vs c)]:=by
   exact J151
  rw[e]
  simp only[declF,setF]
  by_cases h:i=s.sc.length+c
  ·rw[if_pos h,h]
   simp only[scF]
   rw[List.getD_eq_getElem?_getD,List.getElem?_append_right Zo,hl]
   simp
  ·rw[if_neg h,scF_append_lt _ _ Zo]
   exact declF_scF s part nm l vs c i Zo
theorem St.At.declare {s:St}(h:s.At R)(part:Int)(nm:Nat->ByteArray)(l:Nat)(vs:Nat->Int):∀c,(s.declare part nm l vs c).At (declR R (scF s.sc) s.sc.length part nm l vs c)
 |0=>h
 |c+1=>by
  have ih:=h.declare part nm l vs c
  have hb:shadowB (declF (scF s.sc) s.sc.length part nm l vs c) (s.sc.length+c) (l+1) part (nm c)=shadowB (scF (s.declare part nm l vs c).sc) (s.declare part nm l vs c).sc.length (l+1) part (nm c):=by
   rw[St.declare_sc]
   exact shadowB_congr (fun i hi=>declF_scF s part nm l vs c i hi)
  simp only[declR,St.declare]
  rw[hb]
  cases shadowB (scF (s.declare part nm l vs c).sc) (s.declare part nm l vs c).sc.length (l+1) part (nm c)
  ·exact (ih.decl part c).name _
  ·exact ((ih.note part c 3).decl part c).name _
def PostS (w0:World) (wp:Nat) (tv:Value) (own:Nat->Nat) (w:World) (R:Nat->List (List Value)) (B:Nat) (lp:Nat->Int) (rs:Nat->Bool) (w':World) (P:St->Prop):Prop:=
 ∃own' V' R' s',Ws w0 w' wp tv own' V' R' B lp rs/\Fr own own' w w'/\St.At s' R'/\(R' 2).length=(R 2).length/\Mono R R'/\P s'
theorem Mono.trans {R R1 R2:Nat->List (List Value)}(h:Mono R R1)(hl:(R1 2).length=(R 2).length)(k:Mono R1 R2):Mono R R2:=fun i hi=>
 ⟨Nat.le_trans (h i hi).1 (k i (by rw[hl];exact hi)).1,Nat.le_trans (h i hi).2.1 (k i (by rw[hl];exact hi)).2.1,Nat.le_trans (h i hi).2.2 (k i (by rw[hl];exact hi)).2.2⟩
theorem Mono.refl (R:Nat->List (List Value)):Mono R R:=fun _ _=>⟨Nat.le_refl _,Nat.le_refl _,Nat.le_refl _⟩
theorem mono_eq {R R1 R2:Nat->List (List Value)}(e:R1 2=R 2)(k:Mono R1 R2)(e3:R1 3=R 3:=by rfl):Mono R R2:=fun i hi=>by
 have:=k i (by rw[e];exact hi)
 unfold nlen at this ⊢
 rw[e,e3] at this
 exact this
theorem Post.toS (h:Post w0 wp tv own w R1 B lp rs w'){s:St}(hs:s.At R1)(e:R1 2=R 2){P:St->Prop}(hP:P s)(e3:R1 3=R 3:=by rfl):PostS w0 wp tv own w R B lp rs w' P:=by
 obtain ⟨own',V',R',h1,h2,h3⟩:=h
 exact ⟨own',V',R',s,h1,h2,hs.same h3,by rw[h3.len,e],mono_eq e h3.mono e3,hP⟩
theorem PostS.more {B B':Nat}{P:St->Prop}(h:PostS w0 wp tv own w R B lp rs w' P)(hB:B<=B'):PostS w0 wp tv own w R B' lp rs w' P:=by
 obtain ⟨own',V',R',s',h1,h2⟩:=h
 exact ⟨own',V',R',s',h1.more hB,h2⟩
theorem Ws.store {V:Nat->Value}(h:Ws w0 w wp tv own V R B lp rs)(ho:own b=0)(hb:w0.heap.size<=b)(o:Nat)(v:Value):Ws w0 (w.setCell ⟨b,o,none⟩ v) wp tv own V R B lp rs:=
 h.loc (row:=some b) (Onw.refl w) ⟨rfl,rfl,rfl,by simp only[World.size_setCell];exact Nat.le_refl _,fun k _ hk=>ksc w b o v k (fun e=>hk (by rw[e]))⟩ (fun x hx=>by obtain rfl:=Option.some.inj hx;exact ⟨ho,hb⟩)
theorem Fr.store {own own':Nat->Nat}(h:Fr own own' w w')(hb:w.heap.size<=b)(o:Nat)(v:Value):Fr own own' w (w'.setCell ⟨b,o,none⟩ v):=
 ⟨by simp only[World.size_setCell];exact h.size,h.tags,fun k hk=>(ksc w' b o v k Zo).trans (h.kept k hk)⟩
end Go.Proofs.YtlibofjbhhdjdaaGreat
namespace Go.Proofs.YtlibofjbhhdjdaaGreat
open Go.RowKit
attribute [local go_sem] rsf
variable {t:ByteArray} {u:Int×Int×Int} {m:NM} {B B' b g i k l wp:Nat} {rs:Nat->Bool} {lp:Nat->Int} {R R1:Nat->List (List Value)} {own own1:Nat->Nat} {V1:Nat->Value} {s1 s2:St} {tv:Value} {w w0 w2 wc wd:World}
theorem builtins_any (w:World):Calls Tryz.prog 112 #[] w fun e w'=>∃b,e= .returned (.slice (some ⟨b,0,none⟩) 15 15)/\w.heap.size<=b/\Onw w w'/\∀i,i < 15->w'.cell? ⟨b,i,none⟩=some (.string (builtinAt i)):=by
 go_enter Tryz.func112,Tryz.ntmps112
 go_wp2_with fail
 go_ret
 refine ⟨w.heap.size,rfl,Nat.le_refl _,Onw.alloc _ _,fun i hi=>?_⟩
 rw[Blk.cell (Blk.new w 9 _)]
 have cs:i=0\/i=1\/i=2\/i=3\/i=4\/i=5\/i=6\/i=7\/i=8\/i=9\/i=10\/i=11\/i=12\/i=13\/i=14:=Zo
 rcases cs with rfl|rfl|rfl|rfl|rfl|rfl|rfl|rfl|rfl|rfl|rfl|rfl|rfl|rfl|rfl <;> rfl
def litB (k:Int) (f:Nat):Bool:=k==0||k==1||k==2||(k==3&&FloatKind.f64.format.order f f==some .eq)||k==4||k==8
def ndM (k n:Int) (f:Nat) (s:ByteArray):NM:=⟨⟨k,0,0,n,f,s,0,fun _=>0,0,fun _=>0⟩,none,0,none,0⟩
theorem literal_any (k n:Int)(f:Nat)(s:ByteArray)(r:Int)(w:World):Calls Tryz.prog 84 #[.agg #[.int .i64 k,.int .i64 n,.float .f64 f,.string s,.int .i64 r]] w fun e w'=>∃(m:NM) (b:Bool),e= .returned (.tuple #[.agg #[.int .i64 m.kind,.int .i64 m.line,.int .i64 m.op,.int .i64 m.num,.float .f64 m.flt,.string m.str,.slice m.ra m.nr m.rc,.slice m.ka m.nk m.kc],.bool b])/\b=litB k f/\Onw w w':=by
 have cs:k=0\/k=1\/k=2\/k=3\/k=4\/k=8\/((k==0)=false/\(k==1)=false/\(k==2)=false/\(k==3)=false/\(k==4)=false/\(k==8)=false):=by simp only[beq_eq_false_iff_ne];omega
 rcases cs with rfl|rfl|rfl|rfl|rfl|rfl|⟨h0,h1,h2,h3,h4,h8⟩
 ·go_enter Tryz.func84,Tryz.ntmps84
  go_wp2_with fail
  exact bodyPost_ret (v:= .tuple #[.agg #[.int .i64 20,.int .i64 0,.int .i64 0,.int .i64 0,.float .f64 0,.string {data:= #[]},.slice none 0 0,.slice none 0 0],.bool true]) J272 rfl ⟨ndM 20 0 0 {data:= #[]},true,rfl,rfl,(Onw.alloc _ _).trans (Onw.alloc _ _)⟩
 ·go_enter Tryz.func84,Tryz.ntmps84
  go_wp2_with fail
  ·exact bodyPost_ret (v:= .tuple #[.agg #[.int .i64 21,.int .i64 0,.int .i64 0,.int .i64 0,.float .f64 0,.string {data:= #[]},.slice none 0 0,.slice none 0 0],.bool true]) J272 rfl ⟨ndM 21 0 0 {data:= #[]},true,rfl,rfl,(Onw.alloc _ _).trans (Onw.alloc _ _)⟩
  ·exact bodyPost_ret (v:= .tuple #[.agg #[.int .i64 22,.int .i64 0,.int .i64 0,.int .i64 0,.float .f64 0,.string {data:= #[]},.slice none 0 0,.slice none 0 0],.bool true]) J272 rfl ⟨ndM 22 0 0 {data:= #[]},true,rfl,rfl,(Onw.alloc _ _).trans (Onw.alloc _ _)⟩
 ·go_enter Tryz.func84,Tryz.ntmps84
  go_wp2_with fail
  exact bodyPost_ret (v:= .tuple #[.agg #[.int .i64 23,.int .i64 0,.int .i64 0,.int .i64 n,.float .f64 0,.string {data:= #[]},.slice none 0 0,.slice none 0 0],.bool true]) J272 rfl ⟨ndM 23 n 0 {data:= #[]},true,rfl,rfl,(Onw.alloc _ _).trans (Onw.alloc _ _)⟩
 ·have n1:w.heap.size+1≠w.heap.size:=Zo
  go_enter Tryz.func84,Tryz.ntmps84
  go_wp2_with fail
  go_region_held3 (fun w'=>w'.cell? ⟨w.heap.size,2,none⟩=some (.float .f64 f)) (go_keep) (fail)
  go_wp2_with fail
  exact bodyPost_ret (v:= .tuple #[.agg #[.int .i64 24,.int .i64 0,.int .i64 0,.int .i64 0,.float .f64 f,.string {data:= #[]},.slice none 0 0,.slice none 0 0],.bool (FloatKind.f64.format.order f f==some .eq)]) J272 rfl ⟨ndM 24 0 f {data:= #[]},FloatKind.f64.format.order f f==some .eq,rfl,by simp[litB],Below.drew ((Onw.alloc _ _).trans (Onw.alloc _ _))⟩
 ·go_enter Tryz.func84,Tryz.ntmps84
  go_wp2_with fail
  exact bodyPost_ret (v:= .tuple #[.agg #[.int .i64 25,.int .i64 0,.int .i64 0,.int .i64 0,.float .f64 0,.string s,.slice none 0 0,.slice none 0 0],.bool true]) J272 rfl ⟨ndM 25 0 0 s,true,rfl,rfl,(Onw.alloc _ _).trans (Onw.alloc _ _)⟩
 ·go_enter Tryz.func84,Tryz.ntmps84
  go_wp2_with fail
  exact bodyPost_ret (v:= .tuple #[.agg #[.int .i64 28,.int .i64 0,.int .i64 0,.int .i64 n,.float .f64 0,.string {data:= #[]},.slice none 0 0,.slice none 0 0],.bool true]) J272 rfl ⟨ndM 28 n 0 {data:= #[]},true,rfl,rfl,(Onw.alloc _ _).trans (Onw.alloc _ _)⟩
 ·go_enter Tryz.func84,Tryz.ntmps84
  go_wp2_with fail
  exact bodyPost_ret (v:= .tuple #[.agg #[.int .i64 0,.int .i64 0,.int .i64 0,.int .i64 0,.float .f64 0,.string {data:= #[]},.slice none 0 0,.slice none 0 0],.bool false]) J272 rfl ⟨ndM 0 0 0 {data:= #[]},false,rfl,by simp[litB,h0,h1,h2,h3,h4,h8],(Onw.alloc _ _).trans (Onw.alloc _ _)⟩
def useK (s:St) (l:Nat) (t:ByteArray):Int×Int×Int:=
 if 0<=findS (scF s.sc) t s.sc.length then
  (bif (scF s.sc (findS (scF s.sc) t s.sc.length).toNat).fixed then 3 else bif (scF s.sc (findS (scF s.sc) t s.sc.length).toNat).fn==(l:Int) then 1 else 2,(scF s.sc (findS (scF s.sc) t s.sc.length).toNat).part,(scF s.sc (findS (scF s.sc) t s.sc.length).toNat).place)
 else match builtinB t 15 with
  |some b=>(4,-1,b)
  |none=>(0,-1,0)
def nameX (l:Nat) (write:Bool) (s:St) (x:SNm):St:=
 bif x.fixed then (bif write then s.write x.part x.place else s.read x.part x.place) else bif x.fn==(l:Int) then (bif write then s.write x.part x.place else s.read x.part x.place) else (bif write then s.write x.part x.place else s.read x.part x.place).close x.part x.place
def nameA (l:Nat) (t:ByteArray) (write:Bool) (s:St):St:=
 if 0<=findS (scF s.sc) t s.sc.length then nameX l write s (scF s.sc (findS (scF s.sc) t s.sc.length).toNat) else s
def nameF (i:Nat) (write:Bool) (k:Int) (s:St):St:=
 bif k==0 then s.fault 2 i else bif write&&(k==3||k==4) then s.fault 3 i else s
def nameS (l i:Nat) (t:ByteArray) (write:Bool) (s:St):St:=
 nameF i write (useK s l t).1 ((nameA l t write s).use i (useK s l t).1 (useK s l t).2.1 (useK s l t).2.2)
theorem info_use:(Tryz.prog.info? 58).map (fun i=>(i.zero,i.size,i.bytes))=some (some (.agg #[.int .i64 0,.int .i64 0,.int .i64 0,.int .i64 0]),4,32):=by kernel_rfl
def bk (t:ByteArray) (k:Nat):Int×Int×Int:=match builtinB t k with
 |some b=>(4,-1,b)
 |none=>(0,-1,0)
theorem bk_yes (h:((builtinAt k).toList==t.toList)=true):bk t (k+1)=(4,-1,(k:Int)):=by
 unfold bk;rw[builtinB,h];rfl
theorem bk_no (h:((builtinAt k).toList==t.toList)=false):bk t (k+1)=bk t k:=by
 unfold bk;rw[builtinB,h];rfl
theorem bk_21 (t:ByteArray)(k:Nat):(bk t k).2.1= -1:=by
 unfold bk;cases builtinB t k <;> rfl
theorem Blk.far {e:TypeId}{cur:Array Value}(h:Blk w g e cur)(hb:g≠b)(o:Nat)(v:Value):Blk (w.setCell ⟨b,o,none⟩ v) g e cur:=(ksc w b o v g hb).trans h
structure Mid (w0 w:World) (wp:Nat) (tv:Value) (own:Nat->Nat) (R:Nat->List (List Value)) (B:Nat) (lp:Nat->Int) (rs:Nat->Bool) (l i:Nat) (s1:St) (u:Int×Int×Int) (wc:World) (own1:Nat->Nat) (V1:Nat->Value) (R1:Nat->List (List Value)) (m:NM):Prop where
 ws:Ws w0 wc wp tv own1 V1 R1 B lp rs
 fr:Fr own own1 w wc
 at_:s1.At R1
 len:(R1 2).length=l+1
 mono:Mono R R1
 lenR:(R 2).length=l+1
 u:Blk wc w.heap.size 58 #[.int .i64 i,.int .i64 u.1,.int .i64 u.2.1,.int .i64 u.2.2]
 ou:own1 w.heap.size=0
 on_:own1 (w.heap.size+1)=0
 n:Blk wc (w.heap.size+1) 97 #[.int .i64 m.kind,.int .i64 m.line,.int .i64 m.op,.int .i64 m.num,.float .f64 m.flt,.string m.str,.slice m.ra m.nr m.rc,.slice m.ka m.nk m.kc]
theorem useK_kind (s:St)(l:Nat)(t:ByteArray):(useK s l t).1=0\/(useK s l t).1=1\/(useK s l t).1=2\/(useK s l t).1=3\/(useK s l t).1=4:=by
 unfold useK
 split
 ·cases (scF s.sc (findS (scF s.sc) t s.sc.length).toNat).fixed
  ·cases (scF s.sc (findS (scF s.sc) t s.sc.length).toNat).fn==(l:Int) <;> simp
  ·simp
 ·split <;> simp
theorem Mid.push (h:Mid w0 w wp tv own R B lp rs l i s1 u wc own1 V1 R1 m){w1 w2:World}{j:Nat}(j1:1<=j)(j2:j<=11)(jn:j≠2){x:List Value}{g cap:Nat}(hx:x.length=rowZ j)(hw1:Onw wc w1)(hown:w2.ownsRow w0.heap.size (rowT j) (rowZ j) (.slice (some ⟨g,0,none⟩) ((R1 j).length+1:Nat) cap) ((R1 j).length+1) ((R1 j).flatten++x))(hgrow:w1.grownBy w2 (V1 j).ownBlock)(hwh:(V1 j).ownBlock=some g\/w1.heap.size<=g)(hs:s2.At (pushR R1 j x))(j3:j≠3:=by decide):
  ∃own2 V2 R2,Mid w0 w wp tv own R (B+1) lp rs l i s2 u (w2.setCell ⟨wp,j,none⟩ (.slice (some ⟨g,0,none⟩) ((R1 j).length+1:Nat) cap)) own2 V2 R2 m/\Fr own1 own2 wc (w2.setCell ⟨wp,j,none⟩ (.slice (some ⟨g,0,none⟩) ((R1 j).length+1:Nat) cap)):=by
 obtain ⟨a,b⟩:=h.ws.push j1 j2 jn hx hw1 hown hgrow hwh
 have e2:pushR R1 j x 2=R1 2:=if_neg (fun e=>jn e.symm)
 exact ⟨_,_,_,⟨a,h.fr.trans b,hs,by rw[e2];exact h.len,fun k hk=>by
  have:=h.mono k hk
  have e3:pushR R1 j x 3=R1 3:=if_neg (fun e=>j3 e.symm)
  unfold nlen at this ⊢
  rw[e2,e3];exact this,h.lenR,(b.kept _ ⟨h.u.lt,h.ou⟩).trans h.u,by rw[b.tags _ h.u.lt];exact h.ou,by rw[b.tags _ h.n.lt];exact h.on_,(b.kept _ ⟨h.n.lt,h.on_⟩).trans h.n⟩,b⟩
theorem Mid.post {R1 R3:Nat->List (List Value)}(h:Mid w0 w wp tv own R B lp rs l i s1 u wc own1 V1 R1 m)(hp:Post w0 wp tv own1 wc R3 B' lp rs w2)(e2:R3 2=R1 2)(hs:s2.At R3)(e3:R3 3=R1 3:=by rfl):∃own2 V2 R2,Mid w0 w wp tv own R B' lp rs l i s2 u w2 own2 V2 R2 m/\Fr own1 own2 wc w2:=by
 obtain ⟨own2,V2,R2,a,b,c⟩:=hp
 exact ⟨own2,V2,R2,⟨a,h.fr.trans b,hs.same c,by rw[c.len,e2];exact h.len,h.mono.trans (by rw[h.len,h.lenR]) (mono_eq e2 c.mono e3),h.lenR,(b.kept _ ⟨h.u.lt,h.ou⟩).trans h.u,by rw[b.tags _ h.u.lt];exact h.ou,by rw[b.tags _ h.n.lt];exact h.on_,(b.kept _ ⟨h.n.lt,h.on_⟩).trans h.n⟩,b⟩
theorem Mid.onw (h:Mid w0 w wp tv own R B lp rs l i s1 u wc own1 V1 R1 m)(o:Onw wc wd):Mid w0 w wp tv own R B lp rs l i s1 u wd own1 V1 R1 m:=
 ⟨h.ws.onw o,h.fr.trans (Fr.onw o),h.at_,h.len,h.mono,h.lenR,h.u.onw o,h.ou,h.on_,h.n.onw o⟩
theorem Mid.more (h:Mid w0 w wp tv own R B lp rs l i s1 u wc own1 V1 R1 m)(hB:B<=B'):Mid w0 w wp tv own R B' lp rs l i s1 u wc own1 V1 R1 m:=
 ⟨h.ws.more hB,h.fr,h.at_,h.len,h.mono,h.lenR,h.u,h.ou,h.on_,h.n⟩
theorem Mid.kind (h:Mid w0 w wp tv own R B lp rs l i s1 u wc own1 V1 R1 m)(z:w0.heap.size<=w.heap.size)(k:Int):Mid w0 w wp tv own R B lp rs l i s1 (k,u.2.1,u.2.2) (wc.setCell ⟨w.heap.size,1,none⟩ (.int .i64 k)) own1 V1 R1 m:=
 ⟨h.ws.store h.ou z 1 _,h.fr.store (Nat.le_refl _) 1 _,h.at_,h.len,h.mono,h.lenR,h.u.set 1 _,h.ou,h.on_,h.n.far Zo 1 _⟩
theorem Mid.node (h:Mid w0 w wp tv own R B lp rs l i s1 u wc own1 V1 R1 m)(z:w0.heap.size<=w.heap.size)(m':NM):Mid w0 w wp tv own R B lp rs l i s1 u (((((((((wc).setCell ⟨w.heap.size+1,0,none⟩ (.int .i64 m'.kind)).setCell ⟨w.heap.size+1,1,none⟩ (.int .i64 m'.line)).setCell ⟨w.heap.size+1,2,none⟩ (.int .i64 m'.op)).setCell ⟨w.heap.size+1,3,none⟩ (.int .i64 m'.num)).setCell ⟨w.heap.size+1,4,none⟩ (.float .f64 m'.flt)).setCell ⟨w.heap.size+1,5,none⟩ (.string m'.str)).setCell ⟨w.heap.size+1,6,none⟩ (.slice m'.ra m'.nr m'.rc)).setCell ⟨w.heap.size+1,7,none⟩ (.slice m'.ka m'.nk m'.kc)) own1 V1 R1 m':=by
 have zN:w0.heap.size<=w.heap.size+1:=Zo
 have yN:w.heap.size<=w.heap.size+1:=Zo
 have nUN:w.heap.size≠w.heap.size+1:=Zo
 have tW:=Ws.store (Ws.store (Ws.store (Ws.store (Ws.store (Ws.store (Ws.store (Ws.store (h.ws) h.on_ zN 0 (.int .i64 m'.kind)) h.on_ zN 1 (.int .i64 m'.line)) h.on_ zN 2 (.int .i64 m'.op)) h.on_ zN 3 (.int .i64 m'.num)) h.on_ zN 4 (.float .f64 m'.flt)) h.on_ zN 5 (.string m'.str)) h.on_ zN 6 (.slice m'.ra m'.nr m'.rc)) h.on_ zN 7 (.slice m'.ka m'.nk m'.kc)
 have tF:=Fr.store (Fr.store (Fr.store (Fr.store (Fr.store (Fr.store (Fr.store (Fr.store (h.fr) yN 0 (.int .i64 m'.kind)) yN 1 (.int .i64 m'.line)) yN 2 (.int .i64 m'.op)) yN 3 (.int .i64 m'.num)) yN 4 (.float .f64 m'.flt)) yN 5 (.string m'.str)) yN 6 (.slice m'.ra m'.nr m'.rc)) yN 7 (.slice m'.ka m'.nk m'.kc)
 have tU:=Blk.far (Blk.far (Blk.far (Blk.far (Blk.far (Blk.far (Blk.far (Blk.far (h.u) nUN 0 (.int .i64 m'.kind)) nUN 1 (.int .i64 m'.line)) nUN 2 (.int .i64 m'.op)) nUN 3 (.int .i64 m'.num)) nUN 4 (.float .f64 m'.flt)) nUN 5 (.string m'.str)) nUN 6 (.slice m'.ra m'.nr m'.rc)) nUN 7 (.slice m'.ka m'.nk m'.kc)
 have tN:=Blk.set (Blk.set (Blk.set (Blk.set (Blk.set (Blk.set (Blk.set (Blk.set (h.n) 0 (.int .i64 m'.kind)) 1 (.int .i64 m'.line)) 2 (.int .i64 m'.op)) 3 (.int .i64 m'.num)) 4 (.float .f64 m'.flt)) 5 (.string m'.str)) 6 (.slice m'.ra m'.nr m'.rc)) 7 (.slice m'.ka m'.nk m'.kc)
 simp only[List.setIfInBounds_toArray,List.set_cons_zero,List.set_cons_succ] at tN
 exact ⟨tW,tF,h.at_,h.len,h.mono,h.lenR,tU,h.ou,h.on_,tN⟩
structure Xd (wc:World) (own1:Nat->Nat) (b:Nat) (x:SNm) (q:Nat):Prop where
 bx:Blk wc b 155 #[.string x.name,.int .i64 x.part,.int .i64 x.place,.int .i64 q,.bool x.fixed,.int .i64 x.code,.int .i64 x.kind,.int .i64 x.num,.float .f64 x.flt,.string x.str,.int .i64 x.ref,.int .i64 x.v]
 ox:own1 b=0
 bd:Blk wc (b+1) 151 #[.int .i64 x.part,.int .i64 x.place]
 od:own1 (b+1)=0
theorem Xd.fr {own1 own2:Nat->Nat}{x:SNm}{q:Nat}(h:Xd wc own1 b x q)(f:Fr own1 own2 wc wd):Xd wd own2 b x q:=
 ⟨(f.kept _ ⟨h.bx.lt,h.ox⟩).trans h.bx,by rw[f.tags _ h.bx.lt];exact h.ox,(f.kept _ ⟨h.bd.lt,h.od⟩).trans h.bd,by rw[f.tags _ h.bd.lt];exact h.od⟩
end Go.Proofs.YtlibofjbhhdjdaaGreat
