import Derived.Test.YtlibofjbhhdjdaaGreatQ
import Derived.Test.YtlibofjbhhdjdaaGreatP05
set_option linter.unusedSimpArgs false
set_option maxRecDepth 100000
set_option maxHeartbeats 16000000
namespace Go.Proofs.YtlibofjbhhdjdaaGreat
open Go.RowKit
attribute [local go_sem] rsf
theorem name_ws {w0 w:World}{wp:Nat}{tv:Value}{own:Nat->Nat}{V:Nat->Value}{R:Nat->List (List Value)}{B:Nat}{lp:Nat->Int}{rs:Nat->Bool}(h:Ws w0 w wp tv own V R B lp rs){l:Nat}(hl:(R 2).length=l+1){s:St}(hs:s.At R)(np:Nat)(pm:Nat->PM)(pa:Option Addr)(pc:Nat)(ha:PartsAt w0 pa np pm)(htv:tv= .slice pa np pc)(hnp:np<=3000)(i:Nat)(hi:i < np)(write:Bool)(hB:B+(l+8)<=16777216)(hfn:∀x∈s.sc,∃q:Nat,x.fn=q/\q<=l):
  Calls Tryz.prog 85 #[.pointer (some ⟨wp,0,none⟩),.int .i64 i,.bool write] w fun e w'=>∃r:Nat,r<=B+(l+8)/\e= .returned (.int .i64 r)/\PostS w0 wp tv own w R (B+(l+8)) lp rs w' (fun s'=>s'=nameS l i (pm i).text write s):=by
 obtain ⟨pb,po,hpa,hpc⟩:=ha.1 Zo
 have C:=hpc i hi
 have t7:=con h.wk.ov C.c7
 have zp:=clt t7
 have b0:w.cell? ⟨wp,0,none⟩=some (.slice (some ⟨pb,po,none⟩) np pc):=Zi
 have zb:=h.blk.lt
 have i0:(0:Int)<=(i:Int):=Zo
 have i1:(i:Int) < (np:Int):=Zo
 have o0:Hid (own w.heap.size=0/\own (w.heap.size+1)=0):=⟨h.wk.high _ (Nat.le_refl _),h.wk.high _ Zo⟩
 have HH:Hid _:=h
 have HL:Hid _:=hl
 have HS:Hid _:=hs
 have HFN:Hid _:=hfn
 have zw0:Hid (w0.heap.size<=w.heap.size):=h.wk.ov.size
 clear h hl hs ha hpc C hfn
 go_enter Tryz.func85,Tryz.ntmps85
 go_wp2_with fail
 refine (find_wk (HH.out.wk.onw ((Onw.alloc _ _).trans (Onw.alloc _ _))) s.sc.length (scF s.sc) HS.out.scope (pm i).text (by have:=HH.out.lens 1 (by omega) (by omega);rw[HS.out.r1,List.length_map] at this;omega)).mono ?_
 rintro e wA ⟨rfl,oA⟩
 have UA:=((Blk.new w 58 #[.int .i64 i,.int .i64 0,.int .i64 (-1),.int .i64 0]).onw (Onw.alloc _ (Obj.cells #[.int .i64 20,.int .i64 0,.int .i64 0,.int .i64 0,.float .f64 0,.string {data:= #[]},.slice none 0 0,.slice none 0 0] 97))).onw oA
 have NA:=(Blk.new (w.alloc (Obj.cells #[.int .i64 i,.int .i64 0,.int .i64 (-1),.int .i64 0] 58)) 97 #[.int .i64 20,.int .i64 0,.int .i64 0,.int .i64 0,.float .f64 0,.string {data:= #[]},.slice none 0 0,.slice none 0 0]).onw oA
 have OA:Hid (Onw w wA):=((Onw.alloc _ _).trans (Onw.alloc _ _)).trans oA
 simp only[World.size_alloc] at NA
 clear oA b0 t7 zp
 have HA:Hid (Ws w0 wA wp tv own V R B lp rs):=HH.out.onw OA.out
 go_upto_if 31 with (fail)
 go_cut [] (fun wc=>∃own1 V1 R1 m,Mid w0 w wp tv own R (B+(l+4)) lp rs l i (nameA l (pm i).text write s) (useK s l (pm i).text) wc own1 V1 R1 m)
 case first=>
  rcases findS_cases (scF s.sc) (pm i).text s.sc.length with hf|⟨k,hk,hf⟩
  ·have d0:decide ((0:Int)<=findS (scF s.sc) (pm i).text s.sc.length)=false:=decide_eq_false J314
   have fin:Hid (useK s l (pm i).text=bk (pm i).text 15/\nameA l (pm i).text write s=s):=⟨by unfold useK;rw[if_neg J314];rfl,by unfold nameA;rw[if_neg J314]⟩
   clear hf
   simp only[d0]
   go_wp2_with fail
   refine (builtins_any _).mono ?_
   rintro e wB ⟨b,rfl,hbb,oB,hc⟩
   have HC:Hid _:=hc
   have UB:=UA.onw oB
   have NB:=NA.onw oB
   have HB:Hid (Ws w0 wB wp tv own V R B lp rs):=HA.out.onw oB
   have FB:Hid (Fr own own w wB):=Fr.onw (OA.out.trans oB)
   have nb:w.heap.size+1 < b:=Nat.lt_of_lt_of_le NA.lt hbb
   clear hc UA NA oB HA hbb
   go_wp2_with fail
   go_loopw [108] (fun x wr=>∃(k:Nat) (m:NM),k<=15/\x= .int .i64 k/\Ws w0 wr wp tv own V R B lp rs/\Fr own own w wr/\(∀j,j < 15->wr.cell? ⟨b,j,none⟩=some (.string (builtinAt j)))/\Blk wr w.heap.size 58 #[.int .i64 i,.int .i64 (bk (pm i).text k).1,.int .i64 (bk (pm i).text k).2.1,.int .i64 (bk (pm i).text k).2.2]/\Blk wr (w.heap.size+1) 97 #[.int .i64 m.kind,.int .i64 m.line,.int .i64 m.op,.int .i64 m.num,.float .f64 m.flt,.string m.str,.slice m.ra m.nr m.rc,.slice m.ka m.nk m.kc]) (fun x _=>15-(intOf x).toNat)
   case atStart=>exact ⟨0,ndM 20 0 0 {data:= #[]},Nat.zero_le _,rfl,HB.out,FB.out,HC.out,UB,NB⟩
   case round=>
    obtain ⟨k,m,hk,rfl,h1,h2,h3,h4,h5⟩:=hrel
    have H1:Hid _:=h1
    have H2:Hid _:=h2
    have H3:Hid _:=h3
    have H4:Hid _:=h4
    have H5:Hid _:=h5
    clear h1 h2 h3 h4 h5
    by_cases hlt:k < 15
    ·have c0:=H3.out k hlt
     have zc:=clt c0
     have k0:(0:Int)<=(k:Int):=Zo
     have k1:(k:Int) < 15:=Zo
     cases he:((builtinAt k).toList==(pm i).text.toList)
     ·have st:=bk_no he
      have ST:Hid _:=st
      clear st
      go_wp2_with fail
      go_roundw
      case rel=>exact ⟨k+1,m,by omega,by go_num,H1.out,H2.out,H3.out,by rw[ST.out];exact H4.out,H5.out⟩
      case measure=>simp[intOf];omega
     ·have ST:Hid _:=bk_yes he
      have y0:wr.cell? ⟨w.heap.size,1,none⟩=some _:=(Blk.cell H4.out 1).trans rfl
      have y1:wr.cell? ⟨w.heap.size,3,none⟩=some _:=(Blk.cell H4.out 3).trans rfl
      have yf:=Blk.free H4.out
      have zu:=Blk.lt H4.out
      have zn:=Blk.lt H5.out
      have n0:wr.cell? ⟨w.heap.size+1,0,none⟩=some _:=(Blk.cell H5.out 0).trans rfl
      have n1:wr.cell? ⟨w.heap.size+1,1,none⟩=some _:=(Blk.cell H5.out 1).trans rfl
      have n2:wr.cell? ⟨w.heap.size+1,2,none⟩=some _:=(Blk.cell H5.out 2).trans rfl
      have n3:wr.cell? ⟨w.heap.size+1,3,none⟩=some _:=(Blk.cell H5.out 3).trans rfl
      have n4:wr.cell? ⟨w.heap.size+1,4,none⟩=some _:=(Blk.cell H5.out 4).trans rfl
      have n5:wr.cell? ⟨w.heap.size+1,5,none⟩=some _:=(Blk.cell H5.out 5).trans rfl
      have n6:wr.cell? ⟨w.heap.size+1,6,none⟩=some _:=(Blk.cell H5.out 6).trans rfl
      have n7:wr.cell? ⟨w.heap.size+1,7,none⟩=some _:=(Blk.cell H5.out 7).trans rfl
      have nf:=Blk.free H5.out
      go_wp2_with fail
      go_roundw
      case rel=>
       have zz:=zw0.out
       have oU:=o0.out.1
       have oN:=o0.out.2
       have zU:w0.heap.size<=w.heap.size:=zz
       have zN:w0.heap.size<=w.heap.size+1:=Zo
       have yU:w.heap.size<=w.heap.size:=Nat.le_refl _
       have yN:w.heap.size<=w.heap.size+1:=Nat.le_succ _
       have nUN:w.heap.size≠w.heap.size+1:=Zo
       have nNU:w.heap.size+1≠w.heap.size:=Zo
       have tW:=Ws.store (Ws.store (Ws.store (Ws.store (Ws.store (Ws.store (Ws.store (Ws.store (Ws.store (Ws.store (H1.out) oU zU 1 (.int .i64 4)) oU zU 3 (.int .i64 k)) oN zN 0 (.int .i64 28)) oN zN 1 (.int .i64 0)) oN zN 2 (.int .i64 0)) oN zN 3 (.int .i64 k)) oN zN 4 (.float .f64 0)) oN zN 5 (.string {data:= #[]})) oN zN 6 (.slice none 0 0)) oN zN 7 (.slice none 0 0)
       have tF:=Fr.store (Fr.store (Fr.store (Fr.store (Fr.store (Fr.store (Fr.store (Fr.store (Fr.store (Fr.store (H2.out) yU 1 (.int .i64 4)) yU 3 (.int .i64 k)) yN 0 (.int .i64 28)) yN 1 (.int .i64 0)) yN 2 (.int .i64 0)) yN 3 (.int .i64 k)) yN 4 (.float .f64 0)) yN 5 (.string {data:= #[]})) yN 6 (.slice none 0 0)) yN 7 (.slice none 0 0)
       have tU:=Blk.far (Blk.far (Blk.far (Blk.far (Blk.far (Blk.far (Blk.far (Blk.far (Blk.set (Blk.set (H4.out) 1 (.int .i64 4)) 3 (.int .i64 k)) nUN 0 (.int .i64 28)) nUN 1 (.int .i64 0)) nUN 2 (.int .i64 0)) nUN 3 (.int .i64 k)) nUN 4 (.float .f64 0)) nUN 5 (.string {data:= #[]})) nUN 6 (.slice none 0 0)) nUN 7 (.slice none 0 0)
       have tN:=Blk.set (Blk.set (Blk.set (Blk.set (Blk.set (Blk.set (Blk.set (Blk.set (Blk.far (Blk.far (H5.out) nNU 1 (.int .i64 4)) nNU 3 (.int .i64 k)) 0 (.int .i64 28)) 1 (.int .i64 0)) 2 (.int .i64 0)) 3 (.int .i64 k)) 4 (.float .f64 0)) 5 (.string {data:= #[]})) 6 (.slice none 0 0)) 7 (.slice none 0 0)
       rw[bk_21] at tU
       simp only[List.setIfInBounds_toArray,List.set_cons_zero,List.set_cons_succ] at tN tU
       refine ⟨k+1,ndM 28 k 0 {data:= #[]},by omega,by go_num,tW,tF,fun j hj=>?_,?_,tN⟩
       ·have nbU:(w.heap.size:Nat)≠b:=Zo
        have nbN:(w.heap.size+1:Nat)≠b:=Zo
        have e0:=H3.out j hj
        have e1:=(World.cell?_setCell_far (wr) ⟨w.heap.size,1,none⟩ ⟨b,j,none⟩ (.int .i64 4) nbU).trans e0
        have e2:=(World.cell?_setCell_far ((wr).setCell ⟨w.heap.size,1,none⟩ (.int .i64 4)) ⟨w.heap.size,3,none⟩ ⟨b,j,none⟩ (.int .i64 k) nbU).trans e1
        have e3:=(World.cell?_setCell_far (((wr).setCell ⟨w.heap.size,1,none⟩ (.int .i64 4)).setCell ⟨w.heap.size,3,none⟩ (.int .i64 k)) ⟨w.heap.size+1,0,none⟩ ⟨b,j,none⟩ (.int .i64 28) nbN).trans e2
        have e4:=(World.cell?_setCell_far ((((wr).setCell ⟨w.heap.size,1,none⟩ (.int .i64 4)).setCell ⟨w.heap.size,3,none⟩ (.int .i64 k)).setCell ⟨w.heap.size+1,0,none⟩ (.int .i64 28)) ⟨w.heap.size+1,1,none⟩ ⟨b,j,none⟩ (.int .i64 0) nbN).trans e3
        have e5:=(World.cell?_setCell_far (((((wr).setCell ⟨w.heap.size,1,none⟩ (.int .i64 4)).setCell ⟨w.heap.size,3,none⟩ (.int .i64 k)).setCell ⟨w.heap.size+1,0,none⟩ (.int .i64 28)).setCell ⟨w.heap.size+1,1,none⟩ (.int .i64 0)) ⟨w.heap.size+1,2,none⟩ ⟨b,j,none⟩ (.int .i64 0) nbN).trans e4
        have e6:=(World.cell?_setCell_far ((((((wr).setCell ⟨w.heap.size,1,none⟩ (.int .i64 4)).setCell ⟨w.heap.size,3,none⟩ (.int .i64 k)).setCell ⟨w.heap.size+1,0,none⟩ (.int .i64 28)).setCell ⟨w.heap.size+1,1,none⟩ (.int .i64 0)).setCell ⟨w.heap.size+1,2,none⟩ (.int .i64 0)) ⟨w.heap.size+1,3,none⟩ ⟨b,j,none⟩ (.int .i64 k) nbN).trans e5
        have e7:=(World.cell?_setCell_far (((((((wr).setCell ⟨w.heap.size,1,none⟩ (.int .i64 4)).setCell ⟨w.heap.size,3,none⟩ (.int .i64 k)).setCell ⟨w.heap.size+1,0,none⟩ (.int .i64 28)).setCell ⟨w.heap.size+1,1,none⟩ (.int .i64 0)).setCell ⟨w.heap.size+1,2,none⟩ (.int .i64 0)).setCell ⟨w.heap.size+1,3,none⟩ (.int .i64 k)) ⟨w.heap.size+1,4,none⟩ ⟨b,j,none⟩ (.float .f64 0) nbN).trans e6
        have e8:=(World.cell?_setCell_far ((((((((wr).setCell ⟨w.heap.size,1,none⟩ (.int .i64 4)).setCell ⟨w.heap.size,3,none⟩ (.int .i64 k)).setCell ⟨w.heap.size+1,0,none⟩ (.int .i64 28)).setCell ⟨w.heap.size+1,1,none⟩ (.int .i64 0)).setCell ⟨w.heap.size+1,2,none⟩ (.int .i64 0)).setCell ⟨w.heap.size+1,3,none⟩ (.int .i64 k)).setCell ⟨w.heap.size+1,4,none⟩ (.float .f64 0)) ⟨w.heap.size+1,5,none⟩ ⟨b,j,none⟩ (.string {data:= #[]}) nbN).trans e7
        have e9:=(World.cell?_setCell_far (((((((((wr).setCell ⟨w.heap.size,1,none⟩ (.int .i64 4)).setCell ⟨w.heap.size,3,none⟩ (.int .i64 k)).setCell ⟨w.heap.size+1,0,none⟩ (.int .i64 28)).setCell ⟨w.heap.size+1,1,none⟩ (.int .i64 0)).setCell ⟨w.heap.size+1,2,none⟩ (.int .i64 0)).setCell ⟨w.heap.size+1,3,none⟩ (.int .i64 k)).setCell ⟨w.heap.size+1,4,none⟩ (.float .f64 0)).setCell ⟨w.heap.size+1,5,none⟩ (.string {data:= #[]})) ⟨w.heap.size+1,6,none⟩ ⟨b,j,none⟩ (.slice none 0 0) nbN).trans e8
        have e10:=(World.cell?_setCell_far ((((((((((wr).setCell ⟨w.heap.size,1,none⟩ (.int .i64 4)).setCell ⟨w.heap.size,3,none⟩ (.int .i64 k)).setCell ⟨w.heap.size+1,0,none⟩ (.int .i64 28)).setCell ⟨w.heap.size+1,1,none⟩ (.int .i64 0)).setCell ⟨w.heap.size+1,2,none⟩ (.int .i64 0)).setCell ⟨w.heap.size+1,3,none⟩ (.int .i64 k)).setCell ⟨w.heap.size+1,4,none⟩ (.float .f64 0)).setCell ⟨w.heap.size+1,5,none⟩ (.string {data:= #[]})).setCell ⟨w.heap.size+1,6,none⟩ (.slice none 0 0)) ⟨w.heap.size+1,7,none⟩ ⟨b,j,none⟩ (.slice none 0 0) nbN).trans e9
        exact e10
       ·rw[ST.out];exact tU
      case measure=>simp[intOf];omega
    ·obtain rfl:k=15:=Zo
     go_wp2_with fail
     go_meet
     case rel=>exact ⟨own,V,R,m,H1.out.more Zo,H2.out,by rw[fin.out.2];exact HS.out,HL.out,Mono.refl _,HL.out,by rw[fin.out.1];exact H4.out,o0.out.1,o0.out.2,H5.out⟩
  ·obtain ⟨x,hxd⟩:∃x,x=scF s.sc k:=⟨_,rfl⟩
   have kt:(k:Int).toNat=k:=rfl
   have d0:decide ((0:Int)<=findS (scF s.sc) (pm i).text s.sc.length)=true:=decide_eq_true J314
   have fin:Hid (useK s l (pm i).text=(bif x.fixed then 3 else bif x.fn==(l:Int) then 1 else 2,x.part,x.place)/\nameA l (pm i).text write s=nameX l write s x):=⟨by unfold useK;rw[if_pos J314,hf,kt,<-hxd],by unfold nameA;rw[if_pos J314,hf,kt,<-hxd]⟩
   obtain ⟨q,hq,hql⟩:=HFN.out x (by rw[hxd];simp only[scF];rw[List.getD_eq_getElem?_getD,List.getElem?_eq_getElem hk];exact List.getElem_mem hk)
   obtain ⟨g,cap,hv1,hnc,hgb,hc⟩:=HA.out.scope HS.out.scope hk
   rw[<-hxd] at hc
   have b1:wA.cell? ⟨wp,1,none⟩=some (.slice (some ⟨g,0,none⟩) s.sc.length cap):=by rw[HA.out.blk.cell,<-hv1];rfl
   have x0:wA.cell? ⟨g,k*12+0,none⟩=some (.string x.name):=(hc 0 Zo).trans rfl
   have x1:wA.cell? ⟨g,k*12+1,none⟩=some (.int .i64 x.part):=(hc 1 Zo).trans rfl
   have x2:wA.cell? ⟨g,k*12+2,none⟩=some (.int .i64 x.place):=(hc 2 Zo).trans rfl
   have x3:wA.cell? ⟨g,k*12+3,none⟩=some (.int .i64 x.fn):=(hc 3 Zo).trans rfl
   have x4:wA.cell? ⟨g,k*12+4,none⟩=some (.bool x.fixed):=(hc 4 Zo).trans rfl
   have x5:wA.cell? ⟨g,k*12+5,none⟩=some (.int .i64 x.code):=(hc 5 Zo).trans rfl
   have x6:wA.cell? ⟨g,k*12+6,none⟩=some (.int .i64 x.kind):=(hc 6 Zo).trans rfl
   have x7:wA.cell? ⟨g,k*12+7,none⟩=some (.int .i64 x.num):=(hc 7 Zo).trans rfl
   have x8:wA.cell? ⟨g,k*12+8,none⟩=some (.float .f64 x.flt):=(hc 8 Zo).trans rfl
   have x9:wA.cell? ⟨g,k*12+9,none⟩=some (.string x.str):=(hc 9 Zo).trans rfl
   have x10:wA.cell? ⟨g,k*12+10,none⟩=some (.int .i64 x.ref):=(hc 10 Zo).trans rfl
   have x11:wA.cell? ⟨g,k*12+11,none⟩=some (.int .i64 x.v):=(hc 11 Zo).trans rfl
   simp only[Nat.add_zero] at x0
   have zb1:=HA.out.blk.lt
   have zx:=clt x0
   have k0:(0:Int)<=findS (scF s.sc) (pm i).text s.sc.length:=J314
   have k1:findS (scF s.sc) (pm i).text s.sc.length < (s.sc.length:Int):=J314
   have kn:(findS (scF s.sc) (pm i).text s.sc.length).toNat=k:=by rw[hf];rfl
   have y2:=Blk.at_ UA 2 rfl
   have y3:=Blk.at_ UA 3 rfl
   have yf:=Blk.free UA
   have zu:=Blk.lt UA
   have nA1:w.heap.size+1 < wA.heap.size:=Blk.lt NA
   clear hc hv1 hxd hf
   simp only[d0]
   go_upto_if 50 with (fail)
   have hqx:x.fn=(q:Int):=hq
   have oX:own wA.heap.size=0:=HH.out.wk.high _ OA.out.size
   have oX1:own (wA.heap.size+1)=0:=HH.out.wk.high _ (Nat.le_succ_of_le OA.out.size)
   have z0:=zw0.out
   have tW:=Ws.store (Ws.store HA.out o0.out.1 z0 2 (.int .i64 x.part)) o0.out.1 z0 3 (.int .i64 x.place)
   have tF:=Fr.store (Fr.store (Fr.onw (own:=own) OA.out) (Nat.le_refl _) 2 (.int .i64 x.part)) (Nat.le_refl _) 3 (.int .i64 x.place)
   have tU:=Blk.set (Blk.set UA 2 (.int .i64 x.part)) 3 (.int .i64 x.place)
   simp only[List.setIfInBounds_toArray,List.set_cons_zero,List.set_cons_succ] at tU
   have tN:=Blk.far (Blk.far NA (show w.heap.size+1≠w.heap.size by omega) 2 (.int .i64 x.part)) (show w.heap.size+1≠w.heap.size by omega) 3 (.int .i64 x.place)
   have M0:Mid w0 w wp tv own R B lp rs l i s (0,x.part,x.place) ((wA.setCell ⟨w.heap.size,2,none⟩ (.int .i64 x.part)).setCell ⟨w.heap.size,3,none⟩ (.int .i64 x.place)) own V R (ndM 20 0 0 {data:= #[]}):=⟨tW,tF,HS.out,HL.out,Mono.refl _,HL.out,tU,o0.out.1,o0.out.2,tN⟩
   have hsz:((wA.setCell ⟨w.heap.size,2,none⟩ (.int .i64 x.part)).setCell ⟨w.heap.size,3,none⟩ (.int .i64 x.place)).heap.size=wA.heap.size:=by simp only[World.size_setCell]
   clear tW tF tU tN UA NA HA
   generalize (wA.setCell ⟨w.heap.size,2,none⟩ (.int .i64 x.part)).setCell ⟨w.heap.size,3,none⟩ (.int .i64 x.place)=wT at*
   have X1:=(Blk.new wT 155 #[.string x.name,.int .i64 x.part,.int .i64 x.place,.int .i64 q,.bool x.fixed,.int .i64 x.code,.int .i64 x.kind,.int .i64 x.num,.float .f64 x.flt,.string x.str,.int .i64 x.ref,.int .i64 x.v]).onw (Onw.alloc _ (Obj.cells #[.int .i64 x.part,.int .i64 x.place] 151))
   have D1:=Blk.new (wT.alloc (Obj.cells #[.string x.name,.int .i64 x.part,.int .i64 x.place,.int .i64 q,.bool x.fixed,.int .i64 x.code,.int .i64 x.kind,.int .i64 x.num,.float .f64 x.flt,.string x.str,.int .i64 x.ref,.int .i64 x.v] 155)) 151 #[.int .i64 x.part,.int .i64 x.place]
   rw[World.size_alloc,hsz] at D1
   rw[hsz] at X1
   have M1:=(M0.onw (Onw.alloc wT (Obj.cells #[.string x.name,.int .i64 x.part,.int .i64 x.place,.int .i64 q,.bool x.fixed,.int .i64 x.code,.int .i64 x.kind,.int .i64 x.num,.float .f64 x.flt,.string x.str,.int .i64 x.ref,.int .i64 x.v] 155))).onw (Onw.alloc _ (Obj.cells #[.int .i64 x.part,.int .i64 x.place] 151))
   clear M0
   generalize (wT.alloc (Obj.cells #[.string x.name,.int .i64 x.part,.int .i64 x.place,.int .i64 q,.bool x.fixed,.int .i64 x.code,.int .i64 x.kind,.int .i64 x.num,.float .f64 x.flt,.string x.str,.int .i64 x.ref,.int .i64 x.v] 155)).alloc (Obj.cells #[.int .i64 x.part,.int .i64 x.place] 151)=wS at*
   have HX:Hid (Xd wS own wA.heap.size x q):=⟨X1,oX,D1,oX1⟩
   have HM0:Hid _:=M1
   clear b1 x0 x1 x2 x3 x4 x5 x6 x7 x8 x9 x10 x11 zb1 zx y2 y3 yf zu hsz
   have e0:=Blk.at_ D1 0 rfl
   have e1:=Blk.at_ D1 1 rfl
   have ze:=Blk.lt D1
   have B0:=M1.ws.blk
   have hx9:wS.ownsRow w0.heap.size 151 2 (V 9) (R 9).length (R 9).flatten:=(M1.ws.wk.rows 9 Zo Zo).row
   have hx10:wS.ownsRow w0.heap.size 151 2 (V 10) (R 10).length (R 10).flatten:=(M1.ws.wk.rows 10 Zo Zo).row
   have hlen9:=M1.ws.lens 9 Zo Zo
   have hlen10:=M1.ws.lens 10 Zo Zo
   have hne9:=M1.ws.ne (j:=9) Zo Zo
   have hne10:=M1.ws.ne (j:=10) Zo Zo
   have hlo:=M1.ws.wk.ov.size
   have b9:=Blk.at_ B0 9 rfl
   have b10:=Blk.at_ B0 10 rfl
   have bf:=B0.free
   have zwp:=B0.lt
   obtain ⟨q0,hq0,hz0,hz1,hz2⟩:=info_parts info_decl
   have N:=Blk.new wS.drew 151 #[.int .i64 x.part,.int .i64 x.place]
   clear M1 X1 D1
   go_cut [] (fun wd=>∃own1 V1 R1,Mid w0 w wp tv own R (B+1) lp rs l i (bif write then s.write x.part x.place else s.read x.part x.place) (0,x.part,x.place) wd own1 V1 R1 (ndM 20 0 0 {data:= #[]})/\Xd wd own1 wA.heap.size x q)
   case first=>
    cases write
    ·go_wp2_with fail
     go_region_law (first|(refine step_app rfl (.tmp 65) (.tmp 67) 47 rfl w0.heap.size 151 q0 _ 2 16 Tryz.underlying47 hq0 hz0 hz1 hz2 rfl Zb (V 9) (R 9).length (R 9).flatten rfl ((World.ownsRow.drew hx9).alloc _) ⟨wS.heap.size,0,none⟩ 1 1 [.int .i64 x.part,.int .i64 x.place] rfl rfl (fun j u hj=>by rw[Go.WideShapes.add_plain];exact (Blk.cell N (0+j)).trans J288) J262 Zb Zm Zo (by show w0.heap.size<=(wS.drew.alloc _).heap.size;simp;omega) ?_;intro g9 cap9 w2 hown hgrow hwhere;have B2:=(hgrow.block wp Zj (fun e=>hne9 e.symm)).trans (B0.onw ((Below.drew (Onw.refl wS)).trans (Onw.alloc wS.drew _)));have bf2:=Blk.free B2;have b42:w2.cell? ⟨wp,9,none⟩=some (V 9):=by rw[Blk.cell B2];rfl))
     all_goals
      go_wp2_with fail
      go_meet
      case rel=>
       obtain ⟨a1,a2,a3,a4,a5⟩:=HM0.out.push (j:=9) Zo Zo Zo rfl ((Below.drew (Onw.refl wS)).trans (Onw.alloc wS.drew _)) hown hgrow hwhere (HM0.out.at_.read x.part x.place)
       exact ⟨a1,a2,a3,a4,HX.out.fr a5⟩
    ·go_wp2_with fail
     go_region_law (first|(refine step_app rfl (.tmp 55) (.tmp 57) 47 rfl w0.heap.size 151 q0 _ 2 16 Tryz.underlying47 hq0 hz0 hz1 hz2 rfl Zb (V 10) (R 10).length (R 10).flatten rfl ((World.ownsRow.drew hx10).alloc _) ⟨wS.heap.size,0,none⟩ 1 1 [.int .i64 x.part,.int .i64 x.place] rfl rfl (fun j u hj=>by rw[Go.WideShapes.add_plain];exact (Blk.cell N (0+j)).trans J288) J262 Zb Zm Zo (by show w0.heap.size<=(wS.drew.alloc _).heap.size;simp;omega) ?_;intro g9 cap9 w2 hown hgrow hwhere;have B2:=(hgrow.block wp Zj (fun e=>hne10 e.symm)).trans (B0.onw ((Below.drew (Onw.refl wS)).trans (Onw.alloc wS.drew _)));have bf2:=Blk.free B2;have b42:w2.cell? ⟨wp,10,none⟩=some (V 10):=by rw[Blk.cell B2];rfl))
     all_goals
      go_wp2_with fail
      go_meet
      case rel=>
       obtain ⟨a1,a2,a3,a4,a5⟩:=HM0.out.push (j:=10) Zo Zo Zo rfl ((Below.drew (Onw.refl wS)).trans (Onw.alloc wS.drew _)) hown hgrow hwhere (HM0.out.at_.write x.part x.place)
       exact ⟨a1,a2,a3,a4,HX.out.fr a5⟩
   case rest=>
    obtain ⟨own1,V1,R1,hM,hX⟩:=hcut
    have HM:Hid _:=hM
    have HXX:Hid _:=hX
    clear e0 e1 ze B0 hx9 hx10 hlen9 hlen10 hne9 hne10 hlo b9 b10 bf zwp N hq0 hz0 hz1 hz2 HX HM0
    have x3:=Blk.at_ hX.bx 3 rfl
    have x4:=Blk.at_ hX.bx 4 rfl
    have x5:=Blk.at_ hX.bx 5 rfl
    have zX:=Blk.lt hX.bx
    have u1:=Blk.at_ hM.u 1 rfl
    have uf:=Blk.free hM.u
    have zU:=Blk.lt hM.u
    have nUX:w.heap.size≠wA.heap.size:=Zo
    have x0:=Blk.at_ hX.bx 0 rfl
    have x1:=Blk.at_ hX.bx 1 rfl
    have x2:=Blk.at_ hX.bx 2 rfl
    have x6:=Blk.at_ hX.bx 6 rfl
    have x7:=Blk.at_ hX.bx 7 rfl
    have x8:=Blk.at_ hX.bx 8 rfl
    have x9:=Blk.at_ hX.bx 9 rfl
    have x10:=Blk.at_ hX.bx 10 rfl
    have x11:=Blk.at_ hX.bx 11 rfl
    have n0:=Blk.at_ hM.n 0 rfl
    have n1:=Blk.at_ hM.n 1 rfl
    have n2:=Blk.at_ hM.n 2 rfl
    have n3:=Blk.at_ hM.n 3 rfl
    have n4:=Blk.at_ hM.n 4 rfl
    have n5:=Blk.at_ hM.n 5 rfl
    have n6:=Blk.at_ hM.n 6 rfl
    have n7:=Blk.at_ hM.n 7 rfl
    have nfr:=Blk.free hM.n
    have zN:=Blk.lt hM.n
    have z1:w0.heap.size<=w.heap.size:=zw0.out
    obtain ⟨g2,cap2,hv2⟩:=hM.ws.fns hM.len
    have b2:wc.cell? ⟨wp,2,none⟩=some (.slice (some ⟨g2,0,none⟩) (l+1:Nat) cap2):=by rw[hM.ws.blk.cell,<-hv2];rfl
    have zwp:=hM.ws.blk.lt
    have nXN:wA.heap.size≠w.heap.size+1:=Zo
    have nNX:w.heap.size+1≠wA.heap.size:=Zo
    have nXU:wA.heap.size≠w.heap.size:=Zo
    have hlp:l+1<=16777216:=Zo
    clear hM hX hv2
    rcases Bool.eq_false_or_eq_true x.fixed with hfx|hfx
    ·have FU:Hid (useK s l (pm i).text=(3,x.part,x.place)/\nameA l (pm i).text write s=(bif write then s.write x.part x.place else s.read x.part x.place)):=⟨by rw[fin.out.1,hfx];rfl,by rw[fin.out.2];unfold nameX;rw[hfx];rfl⟩
     cases hc0:(x.code==0)
     ·go_wp2_with fail
      go_meet
      case rel=>exact ⟨own1,V1,R1,_,by rw[FU.out.1,FU.out.2];exact (HM.out.kind z1 3).more Zo⟩
     ·go_wp2_with fail
      refine (literal_any x.kind x.num x.flt x.str x.ref _).mono ?_
      rintro e w5 ⟨m,bb,rfl,hbb,o5⟩
      have M3:Hid _:=(HM.out.kind z1 3).onw o5
      have m0:w5.cell? ⟨w.heap.size+1,0,none⟩=some _:=(Blk.cell M3.out.n 0).trans rfl
      have m1:w5.cell? ⟨w.heap.size+1,1,none⟩=some _:=(Blk.cell M3.out.n 1).trans rfl
      have m2:w5.cell? ⟨w.heap.size+1,2,none⟩=some _:=(Blk.cell M3.out.n 2).trans rfl
      have m3:w5.cell? ⟨w.heap.size+1,3,none⟩=some _:=(Blk.cell M3.out.n 3).trans rfl
      have m4:w5.cell? ⟨w.heap.size+1,4,none⟩=some _:=(Blk.cell M3.out.n 4).trans rfl
      have m5:w5.cell? ⟨w.heap.size+1,5,none⟩=some _:=(Blk.cell M3.out.n 5).trans rfl
      have m6:w5.cell? ⟨w.heap.size+1,6,none⟩=some _:=(Blk.cell M3.out.n 6).trans rfl
      have m7:w5.cell? ⟨w.heap.size+1,7,none⟩=some _:=(Blk.cell M3.out.n 7).trans rfl
      have mf:=Blk.free M3.out.n
      have zm:=Blk.lt M3.out.n
      clear o5 hbb
      go_wp2_with fail
      go_meet
      case rel=>exact ⟨own1,V1,R1,m,by rw[FU.out.1,FU.out.2];exact (M3.out.node z1 m).more Zo⟩
    ·cases hqe:((q:Int)==(l:Int))
     ·have FU:Hid (useK s l (pm i).text=(2,x.part,x.place)/\nameA l (pm i).text write s=(bif write then s.write x.part x.place else s.read x.part x.place).close x.part x.place):=⟨by rw[fin.out.1,hfx,hqx,hqe];rfl,by rw[fin.out.2];unfold nameX;rw[hfx,hqx,hqe];rfl⟩
      go_wp2_with fail
      go_quiet (fail)
      go_wp2_with fail
      have M2:Hid _:=(HM.out.onw (below_drewN (Onw.refl _) nq)).kind z1 2
      have X2:Hid (Xd _ _ _ _ _):=⟨Blk.far (HXX.out.bx.onw (below_drewN (Onw.refl _) nq)) nXU 1 (.int .i64 2),HXX.out.ox,Blk.far (HXX.out.bd.onw (below_drewN (Onw.refl _) nq)) (show wA.heap.size+1≠w.heap.size by omega) 1 (.int .i64 2),HXX.out.od⟩
      refine (up_ws M2.out.ws M2.out.len {x with fn:=(q:Int),fixed:=false} q rfl hql Zo).mono ?_
      rintro e w6 ⟨r,rfl,hp⟩
      obtain ⟨own4,V4,R4,hM3,hF3⟩:=M2.out.post hp rfl M2.out.at_
      have M3:Hid _:=hM3
      have X3:Hid _:=X2.out.fr hF3
      clear hp hM3 hF3
      have m0:w6.cell? ⟨w.heap.size+1,0,none⟩=some _:=(Blk.cell M3.out.n 0).trans rfl
      have m1:w6.cell? ⟨w.heap.size+1,1,none⟩=some _:=(Blk.cell M3.out.n 1).trans rfl
      have m2:w6.cell? ⟨w.heap.size+1,2,none⟩=some _:=(Blk.cell M3.out.n 2).trans rfl
      have m3:w6.cell? ⟨w.heap.size+1,3,none⟩=some _:=(Blk.cell M3.out.n 3).trans rfl
      have m4:w6.cell? ⟨w.heap.size+1,4,none⟩=some _:=(Blk.cell M3.out.n 4).trans rfl
      have m5:w6.cell? ⟨w.heap.size+1,5,none⟩=some _:=(Blk.cell M3.out.n 5).trans rfl
      have m6:w6.cell? ⟨w.heap.size+1,6,none⟩=some _:=(Blk.cell M3.out.n 6).trans rfl
      have m7:w6.cell? ⟨w.heap.size+1,7,none⟩=some _:=(Blk.cell M3.out.n 7).trans rfl
      have mf:=Blk.free M3.out.n
      have zm:=Blk.lt M3.out.n
      have d0':=Blk.at_ X3.out.bd 0 rfl
      have d1':=Blk.at_ X3.out.bd 1 rfl
      have zd:=Blk.lt X3.out.bd
      have nDN:wA.heap.size≠w.heap.size:=nXU
      have nND:w.heap.size≠wA.heap.size:=nUX
      clear x0 x1 x2 x3 x4 x5 x6 x7 x8 x9 x10 x11 n0 n1 n2 n3 n4 n5 n6 n7 nfr b2 zwp u1 uf
      go_wp2_with fail
      have M4:Hid _:=(M3.out.node z1 ⟨⟨27,0,0,0,0,{data:= #[]},1,fun _=>0,0,fun _=>0⟩,some ⟨w6.heap.size,0,none⟩,1,none,0⟩).onw (Onw.alloc _ (Obj.cells #[.int .i64 r] 3))
      refine (close_ws M4.out.ws Zo M4.out.at_.pairs x.part x.place).mono ?_
      rintro e w7 ⟨rfl,hp⟩
      obtain ⟨own5,V5,R5,hM5,_⟩:=M4.out.post hp (by unfold closeR;cases closedB (clF (bif write then s.write x.part x.place else s.read x.part x.place).closed) x.part x.place 0 (bif write then s.write x.part x.place else s.read x.part x.place).closed.length <;> rfl) (M4.out.at_.close x.part x.place) (by unfold closeR;cases closedB (clF (bif write then s.write x.part x.place else s.read x.part x.place).closed) x.part x.place 0 (bif write then s.write x.part x.place else s.read x.part x.place).closed.length <;> rfl)
      have M5:Hid _:=hM5
      clear hp hM5
      go_wp2_with fail
      go_meet
      case rel=>exact ⟨own5,V5,R5,_,by rw[FU.out.1,FU.out.2];exact M5.out.more Zo⟩
     ·have FU:Hid (useK s l (pm i).text=(1,x.part,x.place)/\nameA l (pm i).text write s=(bif write then s.write x.part x.place else s.read x.part x.place)):=⟨by rw[fin.out.1,hfx,hqx,hqe];rfl,by rw[fin.out.2];unfold nameX;rw[hfx,hqx,hqe];rfl⟩
      go_wp2_with fail
      go_quiet (fail)
      go_wp2_with fail
      go_meet
      case rel=>exact ⟨own1,V1,R1,_,by rw[FU.out.1,FU.out.2];exact ((((HM.out.onw (below_drewN (Onw.refl _) nq)).kind z1 1).node z1 ⟨⟨26,0,0,0,0,{data:= #[]},1,fun _=>0,0,fun _=>0⟩,some ⟨wc.heap.size,0,none⟩,1,none,0⟩).onw (Onw.alloc _ (Obj.cells #[.int .i64 x.v] 3))).more Zo⟩
 case rest=>
  obtain ⟨own1,V1,R1,m,hM⟩:=hcut
  have HM:Hid _:=hM
  have B0:=hM.ws.blk
  have hx:wc.ownsRow w0.heap.size 58 4 (V1 4) (R1 4).length (R1 4).flatten:=(hM.ws.wk.rows 4 Zo Zo).row
  have hlen:=hM.ws.lens 4 Zo Zo
  have hne:=hM.ws.ne (j:=4) Zo Zo
  have hlo:=hM.ws.wk.ov.size
  have u0:=Blk.at_ hM.u 0 rfl
  have u1:=Blk.at_ hM.u 1 rfl
  have u2:=Blk.at_ hM.u 2 rfl
  have u3:=Blk.at_ hM.u 3 rfl
  have zu:=hM.u.lt
  have b4:=Blk.at_ B0 4 rfl
  have bf:=B0.free
  have zwp:=B0.lt
  have U1:Hid _:=hM.u
  have hun:(V1 4).ownBlock≠some w.heap.size:=fun e=>by have h1:=(hM.ws.wk.rows 4 Zo Zo).mine _ e;have h2:=hM.ou;omega
  obtain ⟨q0,hq,hz0,hz1,hz2⟩:=info_parts info_use
  have N:=Blk.new wc.drew 58 #[.int .i64 i,.int .i64 (useK s l (pm i).text).1,.int .i64 (useK s l (pm i).text).2.1,.int .i64 (useK s l (pm i).text).2.2]
  clear hM
  go_wp2_with fail
  go_cut [] (fun wd=>∃own2 V2 R2,Mid w0 w wp tv own R (B+(l+4)+1) lp rs l i ((nameA l (pm i).text write s).use i (useK s l (pm i).text).1 (useK s l (pm i).text).2.1 (useK s l (pm i).text).2.2) (useK s l (pm i).text) wd own2 V2 R2 m)
  case first=>
   go_region_law (first|(refine step_app rfl (.tmp 126) (.tmp 128) 26 rfl w0.heap.size 58 q0 _ 4 32 Tryz.underlying26 hq hz0 hz1 hz2 rfl Zb (V1 4) (R1 4).length (R1 4).flatten rfl ((World.ownsRow.drew hx).alloc _) ⟨wc.heap.size,0,none⟩ 1 1 [.int .i64 i,.int .i64 (useK s l (pm i).text).1,.int .i64 (useK s l (pm i).text).2.1,.int .i64 (useK s l (pm i).text).2.2] rfl rfl (fun j u hj=>by rw[Go.WideShapes.add_plain];exact (Blk.cell N (0+j)).trans J288) J262 Zb Zm Zo (by show w0.heap.size<=(wc.drew.alloc _).heap.size;simp;omega) ?_;intro g cap w2 hown hgrow hwhere;have B2:=(hgrow.block wp Zj (fun e=>hne e.symm)).trans (B0.onw ((Below.drew (Onw.refl wc)).trans (Onw.alloc wc.drew _)));have bf2:=Blk.free B2;have b42:w2.cell? ⟨wp,4,none⟩=some (V1 4):=by rw[Blk.cell B2];rfl))
   all_goals
    go_wp2_with fail
    go_meet
    case rel=>obtain ⟨a1,a2,a3,a4,_⟩:=HM.out.push (j:=4) Zo Zo Zo rfl ((Below.drew (Onw.refl wc)).trans (Onw.alloc wc.drew _)) hown hgrow hwhere (HM.out.at_.use _ _ _ _);exact ⟨a1,a2,a3,a4⟩
  case rest=>
   obtain ⟨own2,V2,R2,hM2⟩:=hcut
   have v1:=Blk.at_ hM2.u 1 rfl
   have zu2:=hM2.u.lt
   have HM2:Hid _:=hM2
   clear hM2 hx hlen hne hlo u0 u1 u2 u3 zu b4 bf zwp B0 hun N hq hz0 hz1 hz2 U1 HM
   go_upto_if 134 with (fail)
   go_cut [] (fun wd=>∃own3 V3 R3,Mid w0 w wp tv own R (B+(l+4)+1+1) lp rs l i (nameS l i (pm i).text write s) (useK s l (pm i).text) wd own3 V3 R3 m)
   case first=>
    have same:Hid (∀X:St,nameS l i (pm i).text write s=X->∃own3 V3 R3,(X=((nameA l (pm i).text write s).use i (useK s l (pm i).text).1 (useK s l (pm i).text).2.1 (useK s l (pm i).text).2.2)->Mid w0 w wp tv own R (B+(l+4)+1+1) lp rs l i (nameS l i (pm i).text write s) (useK s l (pm i).text) wc own3 V3 R3 m)):=fun X e=>⟨own2,V2,R2,fun e2=>by rw[e,e2];exact ⟨HM2.out.ws.more (Nat.le_succ _),HM2.out.fr,HM2.out.at_,HM2.out.len,HM2.out.mono,HM2.out.lenR,HM2.out.u,HM2.out.ou,HM2.out.on_,HM2.out.n⟩⟩
    have HK:Hid _:=useK_kind s l (pm i).text
    rcases HK.out with e|e|e|e|e
    ·have fin:Hid (nameS l i (pm i).text write s=St.fault ((nameA l (pm i).text write s).use i (useK s l (pm i).text).1 (useK s l (pm i).text).2.1 (useK s l (pm i).text).2.2) 2 i):=J307
     have e0:((useK s l (pm i).text).1==0)=_:=congrArg (·==(0:Int)) e
     have e3:((useK s l (pm i).text).1==3)=_:=congrArg (·==(3:Int)) e
     have e4:((useK s l (pm i).text).1==4)=_:=congrArg (·==(4:Int)) e
     simp only[Int.reduceBEq] at e0 e3 e4
     clear e
     go_wp2_with fail
     refine (fault_ws HM2.out.ws Zo 2 i).mono ?_
     exact J99
    ·exact J51
    ·exact J51
    all_goals
     cases write
     ·have fin:Hid (nameS l i (pm i).text false s=((nameA l (pm i).text false s).use i (useK s l (pm i).text).1 (useK s l (pm i).text).2.1 (useK s l (pm i).text).2.2)):=J307
      have e0:((useK s l (pm i).text).1==0)=_:=congrArg (·==(0:Int)) e
      have e3:((useK s l (pm i).text).1==3)=_:=congrArg (·==(3:Int)) e
      have e4:((useK s l (pm i).text).1==4)=_:=congrArg (·==(4:Int)) e
      simp only[Int.reduceBEq] at e0 e3 e4
      clear e
      exact J226
     ·have fin:Hid (nameS l i (pm i).text true s=St.fault ((nameA l (pm i).text true s).use i (useK s l (pm i).text).1 (useK s l (pm i).text).2.1 (useK s l (pm i).text).2.2) 3 i):=J307
      have e0:((useK s l (pm i).text).1==0)=_:=congrArg (·==(0:Int)) e
      have e3:((useK s l (pm i).text).1==3)=_:=congrArg (·==(3:Int)) e
      have e4:((useK s l (pm i).text).1==4)=_:=congrArg (·==(4:Int)) e
      simp only[Int.reduceBEq] at e0 e3 e4
      clear e
      go_wp2_with fail
      refine (fault_ws HM2.out.ws Zo 3 i).mono ?_
      exact J99
   case rest=>
    obtain ⟨own3,V3,R3,hM3⟩:=hcut
    have n0:=Blk.at_ hM3.n 0 rfl
    have n1:=Blk.at_ hM3.n 1 rfl
    have n2:=Blk.at_ hM3.n 2 rfl
    have n3:=Blk.at_ hM3.n 3 rfl
    have n4:=Blk.at_ hM3.n 4 rfl
    have n5:=Blk.at_ hM3.n 5 rfl
    have n6:=Blk.at_ hM3.n 6 rfl
    have n7:=Blk.at_ hM3.n 7 rfl
    have zn:=hM3.n.lt
    have HM3:Hid _:=hM3
    clear hM3 v1 zu2 HM2
    go_wp2_with fail
    refine (add_ws HM3.out.ws Zo HM3.out.len m).mono ?_
    rintro e w9 ⟨r,hr,rfl,hp⟩
    have HP:Hid _:=hp
    clear hp
    go_wp2_with fail
    go_ret
    obtain ⟨own4,V4,R4,hM4,_⟩:=HM3.out.post HP.out rfl HM3.out.at_
    exact ⟨r,by omega,rfl,own4,V4,R4,_,hM4.ws.more Zo,hM4.fr,hM4.at_,by rw[hM4.len,hM4.lenR],hM4.mono,rfl⟩
end Go.Proofs.YtlibofjbhhdjdaaGreat
