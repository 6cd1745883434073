import Derived.Test.YtlibofjbhhdjdaaGreatQ
import Derived.Test.YtlibofjbhhdjdaaGreatP09
import Derived.Test.YtlibofjbhhdjdaaGreatP31
import Derived.Test.YtlibofjbhhdjdaaGreatP32
import Derived.Test.YtlibofjbhhdjdaaGreatP33
import Derived.Test.YtlibofjbhhdjdaaGreatP34
set_option linter.unusedSimpArgs false
set_option maxRecDepth 100000
set_option maxHeartbeats 16000000
namespace Go.Proofs.YtlibofjbhhdjdaaGreat
open Go.RowKit
attribute [local go_sem] rsf
theorem fixedname_ws {w0:World}{wp:Nat}{tv:Value}{np:Nat}{pm:Nat->PM}{pa:Option Addr}{pc:Nat}(htv:tv= .slice pa np pc)(ha:PartsAt w0 pa np pm){w:World}{own:Nat->Nat}{V:Nat->Value}{R:Nat->List (List Value)}{B:Nat}{lp:Nat->Int}{rs:Nat->Bool}(h:Ws w0 w wp tv own V R B lp rs){s:St}(hs:s.At R){l:Nat}(hsf:SFn s l)(hB:B<=16777216){i:Nat}(hi:i < np):
  Calls Tryz.prog 106 #[.pointer (some ⟨wp,0,none⟩),.int .i64 i] w fun e w'=>(∃c:CV,e= .returned (.agg #[.int .i64 i,.int .i64 c.code,.int .i64 c.kind,.int .i64 c.num,.float .f64 c.flt,.string c.str,.int .i64 c.ref])/\Vok c.num c.str)/\Onw w w':=by
 obtain ⟨pb,po,hpa,hpc⟩:=ha.1 Zo
 have t7:=con h.wk.ov (hpc i hi).c7
 have zp:=clt t7
 have b0:w.cell? ⟨wp,0,none⟩=some (.slice (some ⟨pb,po,none⟩) np pc):=Zi
 have zb:=h.blk.lt
 have i0:(0:Int)<=(i:Int):=Zo
 have i1:(i:Int) < (np:Int):=Zo
 have HH:Hid _:=h
 have HS:Hid _:=hs
 have HSF:Hid _:=hsf
 have ZB:=Blk.new w 157 #[.int .i64 0,.int .i64 0,.int .i64 0,.int .i64 0,.float .f64 0,.string {data:= #[]},.int .i64 0]
 clear h hs hsf ha hpc hpa
 go_enter Tryz.func106,Tryz.ntmps106
 go_wp2_with fail
 have O0:Hid (Onw w (w.alloc (Obj.cells #[.int .i64 0,.int .i64 0,.int .i64 0,.int .i64 0,.float .f64 0,.string {data:= #[]},.int .i64 0] 157))):=Onw.alloc _ _
 generalize w.alloc (Obj.cells #[.int .i64 0,.int .i64 0,.int .i64 0,.int .i64 0,.float .f64 0,.string {data:= #[]},.int .i64 0] 157)=wZ at*
 refine (find_wk (HH.out.wk.onw O0.out) s.sc.length (scF s.sc) HS.out.scope (pm i).text (by have:=HH.out.lens 1 (by omega) (by omega);rw[HS.out.r1,List.length_map] at this;omega)).mono ?_
 rintro e wA ⟨rfl,oA⟩
 have OA:Hid (Onw w wA):=O0.out.trans oA
 have ZA:Hid _:=Blk.onw oA ZB
 have zA:=Blk.lt ZA.out
 have y0:=Blk.at_ ZA.out 0 rfl
 have y1:=Blk.at_ ZA.out 1 rfl
 have y2:=Blk.at_ ZA.out 2 rfl
 have y3:=Blk.at_ ZA.out 3 rfl
 have y4:=Blk.at_ ZA.out 4 rfl
 have y5:=Blk.at_ ZA.out 5 rfl
 have y6:=Blk.at_ ZA.out 6 rfl
 have yf:=Blk.free ZA.out
 clear oA ZB b0 t7 zp zb O0
 have HA:Hid (Ws w0 wA wp tv own V R B lp rs):=HH.out.onw OA.out
 rcases findS_cases (scF s.sc) (pm i).text s.sc.length with hf|⟨k,hk,hf⟩
 ·rw[hf]
  clear hf
  go_wp2_with fail
  refine (builtins_any _).mono ?_
  rintro e wB ⟨b,rfl,hbb,oB,hc⟩
  have HC:Hid _:=hc
  have OB:Hid (Onw w wB):=OA.out.trans oB
  have ZBB:Hid _:=Blk.onw oB ZA.out
  clear hc oB y0 y1 y2 y3 y4 y5 y6 yf zA
  go_wp2_with fail
  go_loopw [55] (fun x wr=>∃k:Nat,k<=15/\x= .int .i64 k/\wr=wB) (fun x _=>15-(intOf x).toNat)
  case atStart=>exact ⟨0,Nat.zero_le _,rfl,rfl⟩
  case round=>
   obtain ⟨k,hk,rfl,rfl⟩:=hrel
   have y0:=Blk.at_ ZBB.out 0 rfl
   have y1:=Blk.at_ ZBB.out 1 rfl
   have y2:=Blk.at_ ZBB.out 2 rfl
   have y3:=Blk.at_ ZBB.out 3 rfl
   have y4:=Blk.at_ ZBB.out 4 rfl
   have y5:=Blk.at_ ZBB.out 5 rfl
   have y6:=Blk.at_ ZBB.out 6 rfl
   have yf:=Blk.free ZBB.out
   have zA:=Blk.lt ZBB.out
   by_cases hlt:k < 15
   ·have x0:=HC.out k hlt
    have zx:=clt x0
    have j0:(0:Int)<=(k:Int):=Zo
    have j1:(k:Int) < 15:=Zo
    cases he:((builtinAt k).toList==(pm i).text.toList)
    ·go_wp2_with fail
     go_roundw
     case rel=>exact ⟨k+1,by omega,by go_num,by first|rfl|trivial⟩
     case measure=>simp[intOf];omega
    ·go_wp2_with fail
     exact bodyPost_ret (v:= .agg #[.int .i64 i,.int .i64 0,.int .i64 8,.int .i64 k,.float .f64 0,.string {data:= #[]},.int .i64 0]) J276 rfl ⟨⟨⟨0,8,k,0,{data:= #[]},0⟩,rfl,(⟨by show (-9223372036854775808:Int)<=(k:Int);omega,by show (k:Int)<=9223372036854775807;omega,by decide⟩:Vok (k:Int) {data:= #[]})⟩,bset (bset (bset (bset (bset (bset (bset (OB.out) (Nat.le_refl _) _) (Nat.le_refl _) _) (Nat.le_refl _) _) (Nat.le_refl _) _) (Nat.le_refl _) _) (Nat.le_refl _) _) (Nat.le_refl _) _⟩
   ·obtain rfl:k=15:=Zo
    go_wp2_with fail
    exact bodyPost_ret (v:= .agg #[.int .i64 i,.int .i64 1,.int .i64 0,.int .i64 0,.float .f64 0,.string {data:= #[]},.int .i64 0]) J276 rfl ⟨⟨⟨1,0,0,0,{data:= #[]},0⟩,rfl,Vok.zero⟩,bset (bset (bset (bset (bset (bset (bset (OB.out) (Nat.le_refl _) _) (Nat.le_refl _) _) (Nat.le_refl _) _) (Nat.le_refl _) _) (Nat.le_refl _) _) (Nat.le_refl _) _) (Nat.le_refl _) _⟩
 ·rw[hf]
  clear hf
  obtain ⟨x,hxd⟩:∃x,x=scF s.sc k:=⟨_,rfl⟩
  have VX:Hid (Vok x.num x.str):=(HSF.out x (by rw[hxd];simp only[scF];rw[List.getD_eq_getElem?_getD,List.getElem?_eq_getElem hk];exact List.getElem_mem hk)).2
  obtain ⟨g,cap,hv1,hnc,hgb,hc⟩:=HA.out.scope HS.out.scope hk
  rw[<-hxd] at hc
  have b1:wA.cell? ⟨wp,1,none⟩=some (.slice (some ⟨g,0,none⟩) s.sc.length cap):=by rw[HA.out.blk.cell,<-hv1];rfl
  have x4:wA.cell? ⟨g,k*12+4,none⟩=some (.bool x.fixed):=(hc 4 Zo).trans rfl
  have x5:wA.cell? ⟨g,k*12+5,none⟩=some (.int .i64 x.code):=(hc 5 Zo).trans rfl
  have x6:wA.cell? ⟨g,k*12+6,none⟩=some (.int .i64 x.kind):=(hc 6 Zo).trans rfl
  have x7:wA.cell? ⟨g,k*12+6+1,none⟩=some (.int .i64 x.num):=(hc 7 Zo).trans rfl
  have x8:wA.cell? ⟨g,k*12+6+2,none⟩=some (.float .f64 x.flt):=(hc 8 Zo).trans rfl
  have x9:wA.cell? ⟨g,k*12+6+3,none⟩=some (.string x.str):=(hc 9 Zo).trans rfl
  have x10:wA.cell? ⟨g,k*12+6+4,none⟩=some (.int .i64 x.ref):=(hc 10 Zo).trans rfl
  have zb1:=HA.out.blk.lt
  have zx:=clt x4
  have k0:(0:Int)<=(k:Int):=Zo
  have k1:(k:Int) < (s.sc.length:Int):=Zo
  have hsz:w.heap.size≠wp:=J296
  have hsz':wp≠w.heap.size:=Ne.symm hsz
  have hgl:g < w.heap.size:=((HH.out.wk.rows 1 Zo Zo).row.lt g (by rw[hv1];rfl)).2
  have hgn:g≠w.heap.size:=Zo
  have hgn':w.heap.size≠g:=Ne.symm hgn
  clear hc hv1 hxd hnc hgb
  cases hfx:x.fixed
  ·rw[hfx] at x4
   clear hfx
   go_wp2_with fail
   exact bodyPost_ret (v:= .agg #[.int .i64 i,.int .i64 1,.int .i64 0,.int .i64 0,.float .f64 0,.string {data:= #[]},.int .i64 0]) J276 rfl ⟨⟨⟨1,0,0,0,{data:= #[]},0⟩,rfl,Vok.zero⟩,bset (bset (bset (bset (bset (bset (bset (OA.out) (Nat.le_refl _) _) (Nat.le_refl _) _) (Nat.le_refl _) _) (Nat.le_refl _) _) (Nat.le_refl _) _) (Nat.le_refl _) _) (Nat.le_refl _) _⟩
  ·rw[hfx] at x4
   clear hfx
   go_upto_region 4 with (fail)
   go_region_held3 (fun (w':World)=>w'.cell? ⟨wp,1,none⟩=some (.slice (some ⟨g,0,none⟩) s.sc.length cap)/\w'.cell? ⟨g,k*12+5,none⟩=some (.int .i64 x.code)/\w'.cell? ⟨g,k*12+6,none⟩=some (.int .i64 x.kind)/\w'.cell? ⟨g,k*12+6+1,none⟩=some (.int .i64 x.num)/\w'.cell? ⟨g,k*12+6+2,none⟩=some (.float .f64 x.flt)/\w'.cell? ⟨g,k*12+6+3,none⟩=some (.string x.str)/\w'.cell? ⟨g,k*12+6+4,none⟩=some (.int .i64 x.ref)) (go_keep) (fail)
   go_wp2_with fail
   exact bodyPost_ret (v:= .agg #[.int .i64 i,.int .i64 x.code,.int .i64 x.kind,.int .i64 x.num,.float .f64 x.flt,.string x.str,.int .i64 x.ref]) J276 rfl ⟨⟨⟨x.code,x.kind,x.num,x.flt,x.str,x.ref⟩,rfl,VX.out⟩,Onw.trans (bset (bset (bset (bset (bset (bset (bset (OA.out) (Nat.le_refl _) _) (Nat.le_refl _) _) (Nat.le_refl _) _) (Nat.le_refl _) _) (Nat.le_refl _) _) (Nat.le_refl _) _) (Nat.le_refl _) _) (Below.drew (Onw.refl _))⟩
end Go.Proofs.YtlibofjbhhdjdaaGreat
namespace Go.Proofs.YtlibofjbhhdjdaaGreat
open Go.RowKit
attribute [local go_sem] rsf
attribute [local go_sem] run_neg_flt
theorem unary_any (op:Int)(ka na:Int)(fa:Nat)(sa:ByteArray)(ra:Int)(w:World):Calls Tryz.prog 107 #[.int .i64 op,.agg #[.int .i64 ka,.int .i64 na,.float .f64 fa,.string sa,.int .i64 ra]] w fun e w'=>(∃v,e= .returned v/\IsVd v)/\Onw w w':=by
 go_enter Tryz.func107,Tryz.ntmps107
 go_wp2_with fail
 have T0:Hid _:=st2 w 153 207 #[.int .i64 ka,.int .i64 na,.float .f64 fa,.string sa,.int .i64 ra] #[.int .i64 0,.int .i64 0,.int .i64 0,.float .f64 0,.string {data:= #[]},.int .i64 0]
 generalize (w.alloc (Obj.cells #[.int .i64 ka,.int .i64 na,.float .f64 fa,.string sa,.int .i64 ra] 153)).alloc (Obj.cells #[.int .i64 0,.int .i64 0,.int .i64 0,.float .f64 0,.string {data:= #[]},.int .i64 0] 207)=w0' at*
 refine (valueOk_any ka na fa sa ra _).mono ?_
 rintro e w1 ⟨⟨xa,rfl,hxa⟩,o1⟩
 have T1:Hid _:=on2 T0.out o1
 clear o1
 have HXa:Hid _:=hxa
 clear hxa
 have ac0:=Blk.at_ T1.out.2.1 0 rfl
 have ac1:=Blk.at_ T1.out.2.1 1 rfl
 have ac2:=Blk.at_ T1.out.2.1 2 rfl
 have ac3:=Blk.at_ T1.out.2.1 3 rfl
 have ac4:=Blk.at_ T1.out.2.1 4 rfl
 have az:=Blk.lt T1.out.2.1
 cases xa
 ·go_wp2_with fail
  clear ac0 ac1 ac2 ac3 ac4 az
  refine (l1fail_any _ _).mono ?_
  rintro e w2 ⟨⟨_,rfl,c9,k9,n9,f9,s9,r9,rfl,v9⟩,o2⟩
  have T2:Hid _:=on2 T1.out o2
  clear o2
  have V9:Hid _:=v9
  clear v9
  have ac0:=Blk.at_ T2.out.2.1 0 rfl
  have ac1:=Blk.at_ T2.out.2.1 1 rfl
  have ac2:=Blk.at_ T2.out.2.1 2 rfl
  have ac3:=Blk.at_ T2.out.2.1 3 rfl
  have ac4:=Blk.at_ T2.out.2.1 4 rfl
  have az:=Blk.lt T2.out.2.1
  have y0:=Blk.at_ T2.out.2.2 0 rfl
  have y1:=Blk.at_ T2.out.2.2 1 rfl
  have y2:=Blk.at_ T2.out.2.2 2 rfl
  have y3:=Blk.at_ T2.out.2.2 3 rfl
  have y4:=Blk.at_ T2.out.2.2 4 rfl
  have y5:=Blk.at_ T2.out.2.2 5 rfl
  have yf:=Blk.free T2.out.2.2
  have yz:=Blk.lt T2.out.2.2
  go_wp2_with fail
  exact bodyPost_ret (v:= .agg #[.int .i64 c9,.int .i64 k9,.int .i64 n9,.float .f64 f9,.string s9,.int .i64 r9]) J291 rfl ⟨⟨_,rfl,_,_,_,_,_,_,rfl,V9.out⟩,bset (bset (bset (bset (bset (bset (T2.out.1) Zo _) Zo _) Zo _) Zo _) Zo _) Zo _⟩
 have sza:sa.size<=4000:=HXa.out rfl
 by_cases o21:op=21
 ·have p1:(op==21)=true:=by rw[beq_iff_eq];exact o21
  have m19:(op==19)=false:=Zd
  have m20:(op==20)=false:=Zd
  have m22:(op==22)=false:=Zd
  clear o21
  go_wp2_with fail
  clear ac0 ac1 ac2 ac3 ac4 az
  refine (truth_any ka na fa sa ra _).mono ?_
  rintro e w2 ⟨⟨x,rfl⟩,o2⟩
  have T2:Hid _:=on2 T1.out o2
  clear o2
  have ac0:=Blk.at_ T2.out.2.1 0 rfl
  have ac1:=Blk.at_ T2.out.2.1 1 rfl
  have ac2:=Blk.at_ T2.out.2.1 2 rfl
  have ac3:=Blk.at_ T2.out.2.1 3 rfl
  have ac4:=Blk.at_ T2.out.2.1 4 rfl
  have az:=Blk.lt T2.out.2.1
  go_wp2_with fail
  clear ac0 ac1 ac2 ac3 ac4 az
  refine (l1bool_any _ _).mono ?_
  rintro e w3 ⟨⟨_,rfl,k1,n1,f1,s1,r1,rfl,v1⟩,o3⟩
  have T3:Hid _:=on2 T2.out o3
  clear o3
  have V1:Hid _:=v1
  clear v1
  have ac0:=Blk.at_ T3.out.2.1 0 rfl
  have ac1:=Blk.at_ T3.out.2.1 1 rfl
  have ac2:=Blk.at_ T3.out.2.1 2 rfl
  have ac3:=Blk.at_ T3.out.2.1 3 rfl
  have ac4:=Blk.at_ T3.out.2.1 4 rfl
  have az:=Blk.lt T3.out.2.1
  go_wp2_with fail
  clear ac0 ac1 ac2 ac3 ac4 az
  refine (l1got_any k1 n1 f1 s1 r1 V1.out _).mono ?_
  rintro e w4 ⟨⟨_,rfl,c9,k9,n9,f9,s9,r9,rfl,v9⟩,o4⟩
  have T4:Hid _:=on2 T3.out o4
  clear o4
  have V9:Hid _:=v9
  clear v9
  have ac0:=Blk.at_ T4.out.2.1 0 rfl
  have ac1:=Blk.at_ T4.out.2.1 1 rfl
  have ac2:=Blk.at_ T4.out.2.1 2 rfl
  have ac3:=Blk.at_ T4.out.2.1 3 rfl
  have ac4:=Blk.at_ T4.out.2.1 4 rfl
  have az:=Blk.lt T4.out.2.1
  have y0:=Blk.at_ T4.out.2.2 0 rfl
  have y1:=Blk.at_ T4.out.2.2 1 rfl
  have y2:=Blk.at_ T4.out.2.2 2 rfl
  have y3:=Blk.at_ T4.out.2.2 3 rfl
  have y4:=Blk.at_ T4.out.2.2 4 rfl
  have y5:=Blk.at_ T4.out.2.2 5 rfl
  have yf:=Blk.free T4.out.2.2
  have yz:=Blk.lt T4.out.2.2
  go_wp2_with fail
  exact bodyPost_ret (v:= .agg #[.int .i64 c9,.int .i64 k9,.int .i64 n9,.float .f64 f9,.string s9,.int .i64 r9]) J291 rfl ⟨⟨_,rfl,_,_,_,_,_,_,rfl,V9.out⟩,bset (bset (bset (bset (bset (bset (T4.out.1) Zo _) Zo _) Zo _) Zo _) Zo _) Zo _⟩
 by_cases o19k2:op=19/\ka=2
 ·have p1:(op==19)=true:=by rw[beq_iff_eq];exact o19k2.1
  have p2:(ka==2)=true:=by rw[beq_iff_eq];exact o19k2.2
  have m21:(op==21)=false:=Zd
  have m20:(op==20)=false:=Zd
  have m22:(op==22)=false:=Zd
  have l3:(ka==3)=false:=Zd
  have l4:(ka==4)=false:=Zd
  clear o21 o19k2
  go_wp2_with fail
  clear ac0 ac1 ac2 ac3 ac4 az
  refine (l1int_any _ (range_wrap _) _).mono ?_
  exact J18
 by_cases o19k3:op=19/\ka=3
 ·have p1:(op==19)=true:=by rw[beq_iff_eq];exact o19k3.1
  have p2:(ka==3)=true:=by rw[beq_iff_eq];exact o19k3.2
  have m21:(op==21)=false:=Zd
  have m20:(op==20)=false:=Zd
  have m22:(op==22)=false:=Zd
  have l2:(ka==2)=false:=Zd
  have l4:(ka==4)=false:=Zd
  clear o21 o19k2 o19k3
  go_wp2_with fail
  clear ac0 ac1 ac2 ac3 ac4 az
  refine (l1flt_any _ _).mono ?_
  exact J18
 by_cases o20k2:op=20/\ka=2
 ·have p1:(op==20)=true:=by rw[beq_iff_eq];exact o20k2.1
  have p2:(ka==2)=true:=by rw[beq_iff_eq];exact o20k2.2
  have m21:(op==21)=false:=Zd
  have m19:(op==19)=false:=Zd
  have m22:(op==22)=false:=Zd
  have l3:(ka==3)=false:=Zd
  have l4:(ka==4)=false:=Zd
  clear o21 o19k2 o19k3 o20k2
  go_wp2_with fail
  clear ac0 ac1 ac2 ac3 ac4 az
  refine (l1int_any _ (by first|exact range_wrap _|exact range_bits _ _ _) _).mono ?_
  exact J18
 by_cases o22k4:op=22/\ka=4
 ·have p1:(op==22)=true:=by rw[beq_iff_eq];exact o22k4.1
  have p2:(ka==4)=true:=by rw[beq_iff_eq];exact o22k4.2
  have m21:(op==21)=false:=Zd
  have m19:(op==19)=false:=Zd
  have m20:(op==20)=false:=Zd
  have l2:(ka==2)=false:=Zd
  have l3:(ka==3)=false:=Zd
  clear o21 o19k2 o19k3 o20k2 o22k4
  go_wp2_with fail
  clear ac0 ac1 ac2 ac3 ac4 az
  refine (l1int_any _ (range_small Zo Zo) _).mono ?_
  exact J18
 have m21:(op==21)=false:=by rw[beq_eq_false_iff_ne];exact o21
 cases q19:(op==19) <;> cases q20:(op==20) <;> cases q22:(op==22) <;> cases l2:(ka==2) <;> cases l3:(ka==3) <;> cases l4:(ka==4) <;> first|(exfalso;simp only[beq_iff_eq,beq_eq_false_iff_ne] at q19 q20 q22 l2 l3 l4;omega)|skip
 all_goals clear o21 o19k2 o19k3 o20k2 o22k4
 all_goals
  go_wp2_with fail
  clear ac0 ac1 ac2 ac3 ac4 az
  refine (l1fail_any _ _).mono ?_
  rintro e w2 ⟨⟨_,rfl,c9,k9,n9,f9,s9,r9,rfl,v9⟩,o2⟩
  have T2:Hid _:=on2 T1.out o2
  clear o2
  have V9:Hid _:=v9
  clear v9
  have ac0:=Blk.at_ T2.out.2.1 0 rfl
  have ac1:=Blk.at_ T2.out.2.1 1 rfl
  have ac2:=Blk.at_ T2.out.2.1 2 rfl
  have ac3:=Blk.at_ T2.out.2.1 3 rfl
  have ac4:=Blk.at_ T2.out.2.1 4 rfl
  have az:=Blk.lt T2.out.2.1
  have y0:=Blk.at_ T2.out.2.2 0 rfl
  have y1:=Blk.at_ T2.out.2.2 1 rfl
  have y2:=Blk.at_ T2.out.2.2 2 rfl
  have y3:=Blk.at_ T2.out.2.2 3 rfl
  have y4:=Blk.at_ T2.out.2.2 4 rfl
  have y5:=Blk.at_ T2.out.2.2 5 rfl
  have yf:=Blk.free T2.out.2.2
  have yz:=Blk.lt T2.out.2.2
  go_wp2_with fail
  exact bodyPost_ret (v:= .agg #[.int .i64 c9,.int .i64 k9,.int .i64 n9,.float .f64 f9,.string s9,.int .i64 r9]) J291 rfl ⟨⟨_,rfl,_,_,_,_,_,_,rfl,V9.out⟩,bset (bset (bset (bset (bset (bset (T2.out.1) Zo _) Zo _) Zo _) Zo _) Zo _) Zo _⟩
end Go.Proofs.YtlibofjbhhdjdaaGreat
namespace Go.Proofs.YtlibofjbhhdjdaaGreat
open Go.RowKit
attribute [local go_sem] rsf
theorem bin_eq (op:Int)(ka na:Int)(fa:Nat)(sa:ByteArray)(ra:Int)(kb nb:Int)(fb:Nat)(sb:ByteArray)(rb:Int)(_ha:RangeI na)(_hb:RangeI nb)(o1:decide (op < 1)=false)(o2:decide (18 < op)=false)(_p12:(op==12)=false)(_p13:(op==13)=true)(_p14:(op==14)=false)(w:World):Calls Tryz.prog 108 #[.int .i64 op,.agg #[.int .i64 ka,.int .i64 na,.float .f64 fa,.string sa,.int .i64 ra],.agg #[.int .i64 kb,.int .i64 nb,.float .f64 fb,.string sb,.int .i64 rb]] w fun e w'=>(∃v,e= .returned v/\IsVd v)/\Onw w w':=by
 exact J24
theorem bin_ne (op:Int)(ka na:Int)(fa:Nat)(sa:ByteArray)(ra:Int)(kb nb:Int)(fb:Nat)(sb:ByteArray)(rb:Int)(_ha:RangeI na)(_hb:RangeI nb)(o1:decide (op < 1)=false)(o2:decide (18 < op)=false)(_p12:(op==12)=false)(_p13:(op==13)=false)(_p14:(op==14)=true)(w:World):Calls Tryz.prog 108 #[.int .i64 op,.agg #[.int .i64 ka,.int .i64 na,.float .f64 fa,.string sa,.int .i64 ra],.agg #[.int .i64 kb,.int .i64 nb,.float .f64 fb,.string sb,.int .i64 rb]] w fun e w'=>(∃v,e= .returned v/\IsVd v)/\Onw w w':=by
 exact J24
theorem bin_23 (op:Int)(ka na:Int)(fa:Nat)(sa:ByteArray)(ra:Int)(kb nb:Int)(fb:Nat)(sb:ByteArray)(rb:Int)(_ha:RangeI na)(_hb:RangeI nb)(o1:decide (op < 1)=false)(o2:decide (18 < op)=false)(_p12:(op==12)=false)(_p13:(op==13)=false)(_p14:(op==14)=false)(_p15:decide (15<=op)=false)(_ha2:(ka==2)=true)(_ha3:(ka==3)=false)(_hb2:(kb==2)=false)(_hb3:(kb==3)=true)(w:World):Calls Tryz.prog 108 #[.int .i64 op,.agg #[.int .i64 ka,.int .i64 na,.float .f64 fa,.string sa,.int .i64 ra],.agg #[.int .i64 kb,.int .i64 nb,.float .f64 fb,.string sb,.int .i64 rb]] w fun e w'=>(∃v,e= .returned v/\IsVd v)/\Onw w w':=by
 exact J1
theorem bin_32 (op:Int)(ka na:Int)(fa:Nat)(sa:ByteArray)(ra:Int)(kb nb:Int)(fb:Nat)(sb:ByteArray)(rb:Int)(_ha:RangeI na)(_hb:RangeI nb)(o1:decide (op < 1)=false)(o2:decide (18 < op)=false)(_p12:(op==12)=false)(_p13:(op==13)=false)(_p14:(op==14)=false)(_p15:decide (15<=op)=false)(_ha2:(ka==2)=false)(_ha3:(ka==3)=true)(_hb2:(kb==2)=true)(_hb3:(kb==3)=false)(w:World):Calls Tryz.prog 108 #[.int .i64 op,.agg #[.int .i64 ka,.int .i64 na,.float .f64 fa,.string sa,.int .i64 ra],.agg #[.int .i64 kb,.int .i64 nb,.float .f64 fb,.string sb,.int .i64 rb]] w fun e w'=>(∃v,e= .returned v/\IsVd v)/\Onw w w':=by
 exact J1
theorem bin_33 (op:Int)(ka na:Int)(fa:Nat)(sa:ByteArray)(ra:Int)(kb nb:Int)(fb:Nat)(sb:ByteArray)(rb:Int)(_ha:RangeI na)(_hb:RangeI nb)(o1:decide (op < 1)=false)(o2:decide (18 < op)=false)(_p12:(op==12)=false)(_p13:(op==13)=false)(_p14:(op==14)=false)(_p15:decide (15<=op)=false)(_ha2:(ka==2)=false)(_ha3:(ka==3)=true)(_hb2:(kb==2)=false)(_hb3:(kb==3)=true)(w:World):Calls Tryz.prog 108 #[.int .i64 op,.agg #[.int .i64 ka,.int .i64 na,.float .f64 fa,.string sa,.int .i64 ra],.agg #[.int .i64 kb,.int .i64 nb,.float .f64 fb,.string sb,.int .i64 rb]] w fun e w'=>(∃v,e= .returned v/\IsVd v)/\Onw w w':=by
 exact J1
end Go.Proofs.YtlibofjbhhdjdaaGreat
namespace Go.Proofs.YtlibofjbhhdjdaaGreat
open Go.RowKit
theorem binary_any (op:Int)(ka na:Int)(fa:Nat)(sa:ByteArray)(ra:Int)(kb nb:Int)(fb:Nat)(sb:ByteArray)(rb:Int)(ha:RangeI na)(hb:RangeI nb)(w:World):Calls Tryz.prog 108 #[.int .i64 op,.agg #[.int .i64 ka,.int .i64 na,.float .f64 fa,.string sa,.int .i64 ra],.agg #[.int .i64 kb,.int .i64 nb,.float .f64 fb,.string sb,.int .i64 rb]] w fun e w'=>(∃v,e= .returned v/\IsVd v)/\Onw w w':=by
 by_cases h1:op < 1
 ·exact bin_low op ka na fa sa ra kb nb fb sb rb ha hb (decide_eq_true h1) w
 have o1:decide (op < 1)=false:=decide_eq_false h1
 by_cases h2:18 < op
 ·exact bin_high op ka na fa sa ra kb nb fb sb rb ha hb o1 (decide_eq_true h2) w
 have o2:decide (18 < op)=false:=decide_eq_false h2
 have q:∀k:Int,op≠k->(op==k)=false:=fun k h=>by rw[beq_eq_false_iff_ne];exact h
 have p:∀k:Int,op=k->(op==k)=true:=fun k h=>by rw[beq_iff_eq];exact h
 by_cases h3:op=12
 ·exact bin_join op ka na fa sa ra kb nb fb sb rb ha hb o1 o2 (p _ h3) (q _ Zo) (q _ Zo) w
 by_cases h4:op=13
 ·exact bin_eq op ka na fa sa ra kb nb fb sb rb ha hb o1 o2 (q _ Zo) (p _ h4) (q _ Zo) w
 by_cases h5:op=14
 ·exact bin_ne op ka na fa sa ra kb nb fb sb rb ha hb o1 o2 (q _ Zo) (q _ Zo) (p _ h5) w
 by_cases h6:15<=op
 ·exact bin_cmp op ka na fa sa ra kb nb fb sb rb ha hb o1 o2 (q _ Zo) (q _ Zo) (q _ Zo) (decide_eq_true h6) h6 Zo w
 have o3:decide (15<=op)=false:=decide_eq_false h6
 have K:∀k:Int,((k==2)=true/\(k==3)=false)\/((k==2)=false/\(k==3)=true)\/((k==2)=false/\(k==3)=false):=fun k=>by simp only[beq_eq_false_iff_ne,beq_iff_eq];omega
 have a1:=q 12 h3
 have a2:=q 13 h4
 have a3:=q 14 h5
 rcases K ka with ⟨x,y⟩|⟨x,y⟩|⟨x,y⟩
 ·rcases K kb with ⟨x',y'⟩|⟨x',y'⟩|⟨x',y'⟩
  ·exact bin_ii op ka na fa sa ra kb nb fb sb rb ha hb o1 o2 a1 a2 a3 o3 x y x' y' w
  ·exact bin_23 op ka na fa sa ra kb nb fb sb rb ha hb o1 o2 a1 a2 a3 o3 x y x' y' w
  ·exact bin_2o op ka na fa sa ra kb nb fb sb rb ha hb o1 o2 a1 a2 a3 o3 x y x' y' w
 ·rcases K kb with ⟨x',y'⟩|⟨x',y'⟩|⟨x',y'⟩
  ·exact bin_32 op ka na fa sa ra kb nb fb sb rb ha hb o1 o2 a1 a2 a3 o3 x y x' y' w
  ·exact bin_33 op ka na fa sa ra kb nb fb sb rb ha hb o1 o2 a1 a2 a3 o3 x y x' y' w
  ·exact bin_3o op ka na fa sa ra kb nb fb sb rb ha hb o1 o2 a1 a2 a3 o3 x y x' y' w
 ·rcases K kb with ⟨x',y'⟩|⟨x',y'⟩|⟨x',y'⟩
  ·exact bin_o2 op ka na fa sa ra kb nb fb sb rb ha hb o1 o2 a1 a2 a3 o3 x y x' y' w
  ·exact bin_o3 op ka na fa sa ra kb nb fb sb rb ha hb o1 o2 a1 a2 a3 o3 x y x' y' w
  ·exact bin_o0 op ka na fa sa ra kb nb fb sb rb ha hb o1 o2 a1 a2 a3 o3 x y x' y' w
end Go.Proofs.YtlibofjbhhdjdaaGreat
namespace Go.Proofs.YtlibofjbhhdjdaaGreat
open Go.RowKit
attribute [local go_sem] rsf
variable {a0 a1 i np pc wp:Nat} {pm:Nat->PM} {pa:Option Addr} {tv:Value} {w0:World}
structure Fx (w wx:World) (P Bd G:Array Value):Prop where
 o:Onw w wx
 rb:Blk wx w.heap.size 157 #[.int .i64 0,.int .i64 0,.int .i64 0,.int .i64 0,.float .f64 0,.string {data:= #[]},.int .i64 0]
 pb:Blk wx (w.heap.size+1) 67 P
 bb:Blk wx (w.heap.size+2) 157 Bd
 gb:Blk wx (w.heap.size+3) 157 G
theorem Fx.onw {w wx wy:World}{P Bd G:Array Value}(h:Fx w wx P Bd G)(o:Onw wx wy):Fx w wy P Bd G:=⟨h.o.trans o,h.rb.onw o,h.pb.onw o,h.bb.onw o,h.gb.onw o⟩
theorem Fx.start (w:World)(P Bd G:Array Value):Fx w ((((w.alloc (.cells #[.int .i64 0,.int .i64 0,.int .i64 0,.int .i64 0,.float .f64 0,.string {data:= #[]},.int .i64 0] 157)).alloc (.cells P 67)).alloc (.cells Bd 157)).alloc (.cells G 157)) P Bd G:=by
 refine ⟨(((Onw.alloc _ _).trans (Onw.alloc _ _)).trans (Onw.alloc _ _)).trans (Onw.alloc _ _),?_,?_,?_,?_⟩
 ·exact Blk.onw (((Onw.alloc _ _).trans (Onw.alloc _ _)).trans (Onw.alloc _ _)) (Blk.new w _ _)
 ·have h:=Blk.onw ((Onw.alloc _ (.cells Bd 157)).trans (Onw.alloc _ (.cells G 157))) (Blk.new (w.alloc (.cells #[.int .i64 0,.int .i64 0,.int .i64 0,.int .i64 0,.float .f64 0,.string {data:= #[]},.int .i64 0] 157)) 67 P)
  simpa only [World.size_alloc] using h
 ·have h:=Blk.onw (Onw.alloc _ (.cells G 157)) (Blk.new ((w.alloc (.cells #[.int .i64 0,.int .i64 0,.int .i64 0,.int .i64 0,.float .f64 0,.string {data:= #[]},.int .i64 0] 157)).alloc (.cells P 67)) 157 Bd)
  simpa only [World.size_alloc] using h
 ·have h:=Blk.new (((w.alloc (.cells #[.int .i64 0,.int .i64 0,.int .i64 0,.int .i64 0,.float .f64 0,.string {data:= #[]},.int .i64 0] 157)).alloc (.cells P 67)).alloc (.cells Bd 157)) 157 G
  simpa only [World.size_alloc] using h
theorem Fx.setG {w wx:World}{P Bd G:Array Value}(h:Fx w wx P Bd G)(o:Nat)(v:Value):Fx w (wx.setCell ⟨w.heap.size+3,o,none⟩ v) P Bd (G.setIfInBounds o v):=⟨bset h.o Zo _,h.rb.far Zo o v,h.pb.far Zo o v,h.bb.far Zo o v,h.gb.set o v⟩
def FixAt (w0:World) (wp:Nat) (tv:Value) (i:Nat):Prop:=
 ∀(w:World) (own:Nat->Nat) (V:Nat->Value) (R:Nat->List (List Value)) (B:Nat) (lp:Nat->Int) (rs:Nat->Bool) (s:St) (l:Nat),Ws w0 w wp tv own V R B lp rs->s.At R->SFn s l->B<=16777216->
  Calls Tryz.prog 83 #[.pointer (some ⟨wp,0,none⟩),.int .i64 i] w fun e w'=>(∃c:CV,e= .returned (.agg #[.int .i64 i,.int .i64 c.code,.int .i64 c.kind,.int .i64 c.num,.float .f64 c.flt,.string c.str,.int .i64 c.ref])/\Vok c.num c.str)/\Onw w w'
theorem fixed_k28 (htv:tv= .slice pa np pc)(ha:PartsAt w0 pa np pm)(hi:i < np)(hk:(pm i).kind=28)(hnk:(pm i).nk=2)(ha0:(pm i).kd 0=a0)(ha1:(pm i).kd 1=a1)(hf:FixAt w0 wp tv a0)(hf':FixAt w0 wp tv a1):FixAt w0 wp tv i:=by
 intro w own V R B lp rs s l h hs hsf hB
 obtain ⟨pb,po,hpa,hpc⟩:=ha.1 Zo
 obtain ⟨c0,c1,c2,c3,c4,c5,c6,c7,c8,c9⟩:=(hpc i hi).onw h.wk.ov
 have zc:=clt c0
 have b0:w.cell? ⟨wp,0,none⟩=some (.slice (some ⟨pb,po,none⟩) np pc):=Zi
 have zb:=h.blk.lt
 have i0:(0:Int)<=(i:Int):=Zo
 have i1:(i:Int) < (np:Int):=Zo
 have HH:Hid _:=h
 have HS:Hid _:=hs
 have HSF:Hid _:=hsf
 have HA:Hid _:=ha
 have HTV:Hid _:=htv
 have k20:((pm i).kind==20)=false:=Zd
 have k21:((pm i).kind==21)=false:=Zd
 have k22:((pm i).kind==22)=false:=Zd
 have k23:((pm i).kind==23)=false:=Zd
 have k24:((pm i).kind==24)=false:=Zd
 have k25:((pm i).kind==25)=false:=Zd
 have k26:((pm i).kind==26)=false:=Zd
 have k30:((pm i).kind==30)=false:=Zd
 have k31:((pm i).kind==31)=false:=Zd
 have k28:((pm i).kind==28)=true:=J275
 have k29:((pm i).kind==29)=false:=Zd
 exact J8
theorem fixed_k29 (htv:tv= .slice pa np pc)(ha:PartsAt w0 pa np pm)(hi:i < np)(hk:(pm i).kind=29)(hnk:(pm i).nk=2)(ha0:(pm i).kd 0=a0)(ha1:(pm i).kd 1=a1)(hf:FixAt w0 wp tv a0)(hf':FixAt w0 wp tv a1):FixAt w0 wp tv i:=by
 intro w own V R B lp rs s l h hs hsf hB
 obtain ⟨pb,po,hpa,hpc⟩:=ha.1 Zo
 obtain ⟨c0,c1,c2,c3,c4,c5,c6,c7,c8,c9⟩:=(hpc i hi).onw h.wk.ov
 have zc:=clt c0
 have b0:w.cell? ⟨wp,0,none⟩=some (.slice (some ⟨pb,po,none⟩) np pc):=Zi
 have zb:=h.blk.lt
 have i0:(0:Int)<=(i:Int):=Zo
 have i1:(i:Int) < (np:Int):=Zo
 have HH:Hid _:=h
 have HS:Hid _:=hs
 have HSF:Hid _:=hsf
 have HA:Hid _:=ha
 have HTV:Hid _:=htv
 have k20:((pm i).kind==20)=false:=Zd
 have k21:((pm i).kind==21)=false:=Zd
 have k22:((pm i).kind==22)=false:=Zd
 have k23:((pm i).kind==23)=false:=Zd
 have k24:((pm i).kind==24)=false:=Zd
 have k25:((pm i).kind==25)=false:=Zd
 have k26:((pm i).kind==26)=false:=Zd
 have k30:((pm i).kind==30)=false:=Zd
 have k31:((pm i).kind==31)=false:=Zd
 have k28:((pm i).kind==28)=false:=Zd
 have k29:((pm i).kind==29)=true:=J275
 exact J8
end Go.Proofs.YtlibofjbhhdjdaaGreat
