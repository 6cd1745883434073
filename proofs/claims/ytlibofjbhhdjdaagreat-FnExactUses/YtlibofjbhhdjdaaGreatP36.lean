import Derived.Test.YtlibofjbhhdjdaaGreatQ
import Derived.Test.YtlibofjbhhdjdaaGreatP35
set_option linter.unusedSimpArgs false
set_option maxRecDepth 100000
set_option maxHeartbeats 16000000
namespace Go.Proofs.YtlibofjbhhdjdaaGreat
open Go.RowKit
attribute [local go_sem] rsf
variable {i np pc wp:Nat} {pm:Nat->PM} {pa:Option Addr} {tv:Value} {w0:World}
theorem fixed_k21 (htv:tv= .slice pa np pc)(ha:PartsAt w0 pa np pm)(hi:i < np)(hk:(pm i).kind=21):FixAt w0 wp tv i:=by
 intro w own V R B lp rs s l h hs hsf hB
 obtain ⟨pb,po,hpa,hpc⟩:=ha.1 Zo
 obtain ⟨c0,c1,c2,c3,c4,c5,c6,c7,c8,c9⟩:=(hpc i hi).onw h.wk.ov
 have zc:=clt c0
 have b0:w.cell? ⟨wp,0,none⟩=some (.slice (some ⟨pb,po,none⟩) np pc):=Zi
 have zb:=h.blk.lt
 have i0:(0:Int)<=(i:Int):=Zo
 have i1:(i:Int) < (np:Int):=Zo
 have HH:Hid _:=h
 have HS:Hid _:=hs
 have HSF:Hid _:=hsf
 have HA:Hid _:=ha
 have HTV:Hid _:=htv
 have k20:((pm i).kind==20)=false:=Zd
 have k21:((pm i).kind==21)=true:=J275
 have k22:((pm i).kind==22)=false:=Zd
 exact J43
theorem fixed_k22 (htv:tv= .slice pa np pc)(ha:PartsAt w0 pa np pm)(hi:i < np)(hk:(pm i).kind=22):FixAt w0 wp tv i:=by
 intro w own V R B lp rs s l h hs hsf hB
 obtain ⟨pb,po,hpa,hpc⟩:=ha.1 Zo
 obtain ⟨c0,c1,c2,c3,c4,c5,c6,c7,c8,c9⟩:=(hpc i hi).onw h.wk.ov
 have zc:=clt c0
 have b0:w.cell? ⟨wp,0,none⟩=some (.slice (some ⟨pb,po,none⟩) np pc):=Zi
 have zb:=h.blk.lt
 have i0:(0:Int)<=(i:Int):=Zo
 have i1:(i:Int) < (np:Int):=Zo
 have HH:Hid _:=h
 have HS:Hid _:=hs
 have HSF:Hid _:=hsf
 have HA:Hid _:=ha
 have HTV:Hid _:=htv
 have k20:((pm i).kind==20)=false:=Zd
 have k21:((pm i).kind==21)=false:=Zd
 have k22:((pm i).kind==22)=true:=J275
 exact J43
theorem fixed_k23 (htv:tv= .slice pa np pc)(ha:PartsAt w0 pa np pm)(hi:i < np)(hk:(pm i).kind=23)(hn:RangeI (pm i).num):FixAt w0 wp tv i:=by
 intro w own V R B lp rs s l h hs hsf hB
 obtain ⟨pb,po,hpa,hpc⟩:=ha.1 Zo
 obtain ⟨c0,c1,c2,c3,c4,c5,c6,c7,c8,c9⟩:=(hpc i hi).onw h.wk.ov
 have zc:=clt c0
 have b0:w.cell? ⟨wp,0,none⟩=some (.slice (some ⟨pb,po,none⟩) np pc):=Zi
 have zb:=h.blk.lt
 have i0:(0:Int)<=(i:Int):=Zo
 have i1:(i:Int) < (np:Int):=Zo
 have HH:Hid _:=h
 have HS:Hid _:=hs
 have HSF:Hid _:=hsf
 have HA:Hid _:=ha
 have HTV:Hid _:=htv
 have k20:((pm i).kind==20)=false:=Zd
 have k21:((pm i).kind==21)=false:=Zd
 have k22:((pm i).kind==22)=false:=Zd
 have k23:((pm i).kind==23)=true:=J275
 have k24:((pm i).kind==24)=false:=Zd
 have k25:((pm i).kind==25)=false:=Zd
 have k26:((pm i).kind==26)=false:=Zd
 have k30:((pm i).kind==30)=false:=Zd
 have k31:((pm i).kind==31)=false:=Zd
 have k28:((pm i).kind==28)=false:=Zd
 have k29:((pm i).kind==29)=false:=Zd
 have HN:Hid _:=hn
 clear hn
 clear h hs hsf ha hpc htv hpa hk
 go_enter Tryz.func83,Tryz.ntmps83
 go_wp2_with fail
 have F0:Hid (Fx w _ #[.int .i64 (pm i).kind,.int .i64 (pm i).frm,.int .i64 (pm i).tto,.int .i64 (pm i).line,.int .i64 (pm i).op,.int .i64 (pm i).num,.float .f64 (pm i).flt,.string (pm i).text,.slice (pm i).na (pm i).nn (pm i).nc,.slice (pm i).ka (pm i).nk (pm i).kc] #[.int .i64 i,.int .i64 1,.int .i64 0,.int .i64 0,.float .f64 0,.string {data:= #[]},.int .i64 0] #[.int .i64 i,.int .i64 0,.int .i64 0,.int .i64 0,.float .f64 0,.string {data:= #[]},.int .i64 0]):=Fx.start w _ _ _
 generalize (((w.alloc (Obj.cells #[.int .i64 0,.int .i64 0,.int .i64 0,.int .i64 0,.float .f64 0,.string {data:= #[]},.int .i64 0] 157)).alloc (Obj.cells #[.int .i64 (pm i).kind,.int .i64 (pm i).frm,.int .i64 (pm i).tto,.int .i64 (pm i).line,.int .i64 (pm i).op,.int .i64 (pm i).num,.float .f64 (pm i).flt,.string (pm i).text,.slice (pm i).na (pm i).nn (pm i).nc,.slice (pm i).ka (pm i).nk (pm i).kc] 67)).alloc (Obj.cells #[.int .i64 i,.int .i64 1,.int .i64 0,.int .i64 0,.float .f64 0,.string {data:= #[]},.int .i64 0] 157)).alloc (Obj.cells #[.int .i64 i,.int .i64 0,.int .i64 0,.int .i64 0,.float .f64 0,.string {data:= #[]},.int .i64 0] 157)=wF at*
 clear zc b0 zb c0 c1 c2 c3 c4 c5 c6 c7 c8 c9
 refine (l1int_any _ HN.out _).mono ?_
 exact J15
theorem fixed_k24 (htv:tv= .slice pa np pc)(ha:PartsAt w0 pa np pm)(hi:i < np)(hk:(pm i).kind=24):FixAt w0 wp tv i:=by
 intro w own V R B lp rs s l h hs hsf hB
 obtain ⟨pb,po,hpa,hpc⟩:=ha.1 Zo
 obtain ⟨c0,c1,c2,c3,c4,c5,c6,c7,c8,c9⟩:=(hpc i hi).onw h.wk.ov
 have zc:=clt c0
 have b0:w.cell? ⟨wp,0,none⟩=some (.slice (some ⟨pb,po,none⟩) np pc):=Zi
 have zb:=h.blk.lt
 have i0:(0:Int)<=(i:Int):=Zo
 have i1:(i:Int) < (np:Int):=Zo
 have HH:Hid _:=h
 have HS:Hid _:=hs
 have HSF:Hid _:=hsf
 have HA:Hid _:=ha
 have HTV:Hid _:=htv
 have k20:((pm i).kind==20)=false:=Zd
 have k21:((pm i).kind==21)=false:=Zd
 have k22:((pm i).kind==22)=false:=Zd
 have k23:((pm i).kind==23)=false:=Zd
 have k24:((pm i).kind==24)=true:=J275
 have k25:((pm i).kind==25)=false:=Zd
 have k26:((pm i).kind==26)=false:=Zd
 have k30:((pm i).kind==30)=false:=Zd
 have k31:((pm i).kind==31)=false:=Zd
 have k28:((pm i).kind==28)=false:=Zd
 have k29:((pm i).kind==29)=false:=Zd
 clear h hs hsf ha hpc htv hpa hk
 go_enter Tryz.func83,Tryz.ntmps83
 go_wp2_with fail
 have F0:Hid (Fx w _ #[.int .i64 (pm i).kind,.int .i64 (pm i).frm,.int .i64 (pm i).tto,.int .i64 (pm i).line,.int .i64 (pm i).op,.int .i64 (pm i).num,.float .f64 (pm i).flt,.string (pm i).text,.slice (pm i).na (pm i).nn (pm i).nc,.slice (pm i).ka (pm i).nk (pm i).kc] #[.int .i64 i,.int .i64 1,.int .i64 0,.int .i64 0,.float .f64 0,.string {data:= #[]},.int .i64 0] #[.int .i64 i,.int .i64 0,.int .i64 0,.int .i64 0,.float .f64 0,.string {data:= #[]},.int .i64 0]):=Fx.start w _ _ _
 generalize (((w.alloc (Obj.cells #[.int .i64 0,.int .i64 0,.int .i64 0,.int .i64 0,.float .f64 0,.string {data:= #[]},.int .i64 0] 157)).alloc (Obj.cells #[.int .i64 (pm i).kind,.int .i64 (pm i).frm,.int .i64 (pm i).tto,.int .i64 (pm i).line,.int .i64 (pm i).op,.int .i64 (pm i).num,.float .f64 (pm i).flt,.string (pm i).text,.slice (pm i).na (pm i).nn (pm i).nc,.slice (pm i).ka (pm i).nk (pm i).kc] 67)).alloc (Obj.cells #[.int .i64 i,.int .i64 1,.int .i64 0,.int .i64 0,.float .f64 0,.string {data:= #[]},.int .i64 0] 157)).alloc (Obj.cells #[.int .i64 i,.int .i64 0,.int .i64 0,.int .i64 0,.float .f64 0,.string {data:= #[]},.int .i64 0] 157)=wF at*
 clear zc b0 zb c0 c1 c2 c3 c4 c5 c6 c7 c8 c9
 refine (l1flt_any _ _).mono ?_
 exact J15
theorem fixed_k25 (htv:tv= .slice pa np pc)(ha:PartsAt w0 pa np pm)(hi:i < np)(hk:(pm i).kind=25)(ht:(pm i).text.size<=4000):FixAt w0 wp tv i:=by
 intro w own V R B lp rs s l h hs hsf hB
 obtain ⟨pb,po,hpa,hpc⟩:=ha.1 Zo
 obtain ⟨c0,c1,c2,c3,c4,c5,c6,c7,c8,c9⟩:=(hpc i hi).onw h.wk.ov
 have zc:=clt c0
 have b0:w.cell? ⟨wp,0,none⟩=some (.slice (some ⟨pb,po,none⟩) np pc):=Zi
 have zb:=h.blk.lt
 have i0:(0:Int)<=(i:Int):=Zo
 have i1:(i:Int) < (np:Int):=Zo
 have HH:Hid _:=h
 have HS:Hid _:=hs
 have HSF:Hid _:=hsf
 have HA:Hid _:=ha
 have HTV:Hid _:=htv
 have k20:((pm i).kind==20)=false:=Zd
 have k21:((pm i).kind==21)=false:=Zd
 have k22:((pm i).kind==22)=false:=Zd
 have k23:((pm i).kind==23)=false:=Zd
 have k24:((pm i).kind==24)=false:=Zd
 have k25:((pm i).kind==25)=true:=J275
 have k26:((pm i).kind==26)=false:=Zd
 have k30:((pm i).kind==30)=false:=Zd
 have k31:((pm i).kind==31)=false:=Zd
 have k28:((pm i).kind==28)=false:=Zd
 have k29:((pm i).kind==29)=false:=Zd
 have HT:Hid _:=ht
 clear ht
 clear h hs hsf ha hpc htv hpa hk
 go_enter Tryz.func83,Tryz.ntmps83
 go_wp2_with fail
 have F0:Hid (Fx w _ #[.int .i64 (pm i).kind,.int .i64 (pm i).frm,.int .i64 (pm i).tto,.int .i64 (pm i).line,.int .i64 (pm i).op,.int .i64 (pm i).num,.float .f64 (pm i).flt,.string (pm i).text,.slice (pm i).na (pm i).nn (pm i).nc,.slice (pm i).ka (pm i).nk (pm i).kc] #[.int .i64 i,.int .i64 1,.int .i64 0,.int .i64 0,.float .f64 0,.string {data:= #[]},.int .i64 0] #[.int .i64 i,.int .i64 0,.int .i64 0,.int .i64 0,.float .f64 0,.string {data:= #[]},.int .i64 0]):=Fx.start w _ _ _
 generalize (((w.alloc (Obj.cells #[.int .i64 0,.int .i64 0,.int .i64 0,.int .i64 0,.float .f64 0,.string {data:= #[]},.int .i64 0] 157)).alloc (Obj.cells #[.int .i64 (pm i).kind,.int .i64 (pm i).frm,.int .i64 (pm i).tto,.int .i64 (pm i).line,.int .i64 (pm i).op,.int .i64 (pm i).num,.float .f64 (pm i).flt,.string (pm i).text,.slice (pm i).na (pm i).nn (pm i).nc,.slice (pm i).ka (pm i).nk (pm i).kc] 67)).alloc (Obj.cells #[.int .i64 i,.int .i64 1,.int .i64 0,.int .i64 0,.float .f64 0,.string {data:= #[]},.int .i64 0] 157)).alloc (Obj.cells #[.int .i64 i,.int .i64 0,.int .i64 0,.int .i64 0,.float .f64 0,.string {data:= #[]},.int .i64 0] 157)=wF at*
 clear zc b0 zb c0 c1 c2 c3 c4 c5 c6 c7 c8 c9
 refine (l1str_any _ HT.out _).mono ?_
 exact J15
theorem fixed_k31 (htv:tv= .slice pa np pc)(ha:PartsAt w0 pa np pm)(hi:i < np)(hk:(pm i).kind=31)(hnk:(pm i).nk=2){a0 a1:Nat}(ha0:(pm i).kd 0=a0)(ha1:(pm i).kd 1=a1)(hf:FixAt w0 wp tv a0)(hf':FixAt w0 wp tv a1):FixAt w0 wp tv i:=by
 intro w own V R B lp rs s l h hs hsf hB
 obtain ⟨pb,po,hpa,hpc⟩:=ha.1 Zo
 obtain ⟨c0,c1,c2,c3,c4,c5,c6,c7,c8,c9⟩:=(hpc i hi).onw h.wk.ov
 have zc:=clt c0
 have b0:w.cell? ⟨wp,0,none⟩=some (.slice (some ⟨pb,po,none⟩) np pc):=Zi
 have zb:=h.blk.lt
 have i0:(0:Int)<=(i:Int):=Zo
 have i1:(i:Int) < (np:Int):=Zo
 have HH:Hid _:=h
 have HS:Hid _:=hs
 have HSF:Hid _:=hsf
 have HA:Hid _:=ha
 have HTV:Hid _:=htv
 have k20:((pm i).kind==20)=false:=Zd
 have k21:((pm i).kind==21)=false:=Zd
 have k22:((pm i).kind==22)=false:=Zd
 have k23:((pm i).kind==23)=false:=Zd
 have k24:((pm i).kind==24)=false:=Zd
 have k25:((pm i).kind==25)=false:=Zd
 have k26:((pm i).kind==26)=false:=Zd
 have k30:((pm i).kind==30)=false:=Zd
 have k31:((pm i).kind==31)=true:=J275
 have k28:((pm i).kind==28)=false:=Zd
 have k29:((pm i).kind==29)=false:=Zd
 obtain ⟨eb,eo,heb,hec⟩:=(ha.2 i hi).2 Zo
 rw[heb] at c9
 have Y0:Hid (w0.cell? ⟨eb,eo+0,none⟩=some (.int .i64 a0)):=by have:=hec 0 Zo;rw[ha0] at this;exact this
 have Y1:Hid (w0.cell? ⟨eb,eo+1,none⟩=some (.int .i64 a1)):=by have:=hec 1 Zo;rw[ha1] at this;exact this
 rw[hnk] at c9
 have hf0:Hid _:=hf
 have hf1:Hid _:=hf'
 clear hf hf' hec ha0 ha1 hnk heb
 clear h hs hsf ha hpc htv hpa hk
 go_enter Tryz.func83,Tryz.ntmps83
 go_upto_region 26 with (fail)
 have F0:Hid (Fx w _ #[.int .i64 (pm i).kind,.int .i64 (pm i).frm,.int .i64 (pm i).tto,.int .i64 (pm i).line,.int .i64 (pm i).op,.int .i64 (pm i).num,.float .f64 (pm i).flt,.string (pm i).text,.slice (pm i).na (pm i).nn (pm i).nc,.slice (some ⟨eb,eo,none⟩) 2 (pm i).kc] #[.int .i64 i,.int .i64 1,.int .i64 0,.int .i64 0,.float .f64 0,.string {data:= #[]},.int .i64 0] #[.int .i64 i,.int .i64 0,.int .i64 0,.int .i64 0,.float .f64 0,.string {data:= #[]},.int .i64 0]):=Fx.start w _ _ _
 generalize (((w.alloc (Obj.cells #[.int .i64 0,.int .i64 0,.int .i64 0,.int .i64 0,.float .f64 0,.string {data:= #[]},.int .i64 0] 157)).alloc (Obj.cells #[.int .i64 (pm i).kind,.int .i64 (pm i).frm,.int .i64 (pm i).tto,.int .i64 (pm i).line,.int .i64 (pm i).op,.int .i64 (pm i).num,.float .f64 (pm i).flt,.string (pm i).text,.slice (pm i).na (pm i).nn (pm i).nc,.slice (some ⟨eb,eo,none⟩) 2 (pm i).kc] 67)).alloc (Obj.cells #[.int .i64 i,.int .i64 1,.int .i64 0,.int .i64 0,.float .f64 0,.string {data:= #[]},.int .i64 0] 157)).alloc (Obj.cells #[.int .i64 i,.int .i64 0,.int .i64 0,.int .i64 0,.float .f64 0,.string {data:= #[]},.int .i64 0] 157)=wF at*
 clear zc b0 zb c0 c1 c2 c3 c4 c5 c6 c7 c8 c9
 have p9:=Blk.at_ F0.out.pb 9 rfl
 have pz:=Blk.lt F0.out.pb
 have yk:wF.cell? ⟨eb,eo,none⟩=some (.int .i64 a0):=con (HH.out.wk.ov.trans F0.out.o) Y0.out
 have zyk:=clt yk
 go_wp2_with fail
 clear p9 pz yk zyk
 refine (hf0.out _ own V R B lp rs s l (HH.out.onw F0.out.o) HS.out HSF.out hB).mono ?_
 rintro e v0 ⟨⟨x0,rfl,vk0⟩,o0⟩
 have VK0:Hid _:=vk0
 have F1:Hid _:=(F0.out.onw o0).onw (Onw.alloc v0 (.cells #[.int .i64 a0,.int .i64 x0.code,.int .i64 x0.kind,.int .i64 x0.num,.float .f64 x0.flt,.string x0.str,.int .i64 x0.ref] 157))
 have X0:Hid (Blk (v0.alloc (.cells #[.int .i64 a0,.int .i64 x0.code,.int .i64 x0.kind,.int .i64 x0.num,.float .f64 x0.flt,.string x0.str,.int .i64 x0.ref] 157)) v0.heap.size 157 #[.int .i64 a0,.int .i64 x0.code,.int .i64 x0.kind,.int .i64 x0.num,.float .f64 x0.flt,.string x0.str,.int .i64 x0.ref]):=Blk.new _ _ _
 have z0:w.heap.size+3 < v0.heap.size:=(F0.out.onw o0).gb.lt
 clear vk0 o0
 go_upto_region 27 with (fail)
 generalize v0.alloc (.cells #[.int .i64 a0,.int .i64 x0.code,.int .i64 x0.kind,.int .i64 x0.num,.float .f64 x0.flt,.string x0.str,.int .i64 x0.ref] 157)=wX at*
 generalize v0.heap.size=kx at*
 have p9:=Blk.at_ F1.out.pb 9 rfl
 have pz:=Blk.lt F1.out.pb
 have yk:wX.cell? ⟨eb,eo+1,none⟩=some (.int .i64 a1):=con (HH.out.wk.ov.trans F1.out.o) Y1.out
 have zyk:=clt yk
 go_wp2_with fail
 clear p9 pz yk zyk
 refine (hf1.out _ own V R B lp rs s l (HH.out.onw F1.out.o) HS.out HSF.out hB).mono ?_
 rintro e v1 ⟨⟨x1,rfl,vk1⟩,o1⟩
 have VK1:Hid _:=vk1
 have F2:Hid _:=(F1.out.onw o1).onw (Onw.alloc v1 (.cells #[.int .i64 a1,.int .i64 x1.code,.int .i64 x1.kind,.int .i64 x1.num,.float .f64 x1.flt,.string x1.str,.int .i64 x1.ref] 157))
 have X1:Hid (Blk (v1.alloc (.cells #[.int .i64 a1,.int .i64 x1.code,.int .i64 x1.kind,.int .i64 x1.num,.float .f64 x1.flt,.string x1.str,.int .i64 x1.ref] 157)) v1.heap.size 157 #[.int .i64 a1,.int .i64 x1.code,.int .i64 x1.kind,.int .i64 x1.num,.float .f64 x1.flt,.string x1.str,.int .i64 x1.ref]):=Blk.new _ _ _
 have z1:w.heap.size+3 < v1.heap.size:=(F1.out.onw o1).gb.lt
 have X0':Hid _:=Blk.onw (Onw.trans o1 (Onw.alloc v1 (.cells #[.int .i64 a1,.int .i64 x1.code,.int .i64 x1.kind,.int .i64 x1.num,.float .f64 x1.flt,.string x1.str,.int .i64 x1.ref] 157))) X0.out
 have zzX0:Hid _:=Nat.lt_of_lt_of_le X0.out.lt o1.size
 clear vk1 o1
 go_upto_region 28 with (fail)
 generalize v1.alloc (.cells #[.int .i64 a1,.int .i64 x1.code,.int .i64 x1.kind,.int .i64 x1.num,.float .f64 x1.flt,.string x1.str,.int .i64 x1.ref] 157)=wY at*
 generalize v1.heap.size=ky at*
 have zxy:kx < ky:=zzX0.out
 have p4:=Blk.at_ F2.out.pb 4 rfl
 have pz:=Blk.lt F2.out.pb
 have q0:=Blk.at_ X0'.out 0 rfl
 have q1:=Blk.at_ X0'.out 1 rfl
 have q2:=Blk.at_ X0'.out 2 rfl
 have q3:=Blk.at_ X0'.out 3 rfl
 have q4:=Blk.at_ X0'.out 4 rfl
 have q5:=Blk.at_ X0'.out 5 rfl
 have q6:=Blk.at_ X0'.out 6 rfl
 have qz:=Blk.lt X0'.out
 have m0:=Blk.at_ X1.out 0 rfl
 have m1:=Blk.at_ X1.out 1 rfl
 have m2:=Blk.at_ X1.out 2 rfl
 have m3:=Blk.at_ X1.out 3 rfl
 have m4:=Blk.at_ X1.out 4 rfl
 have m5:=Blk.at_ X1.out 5 rfl
 have m6:=Blk.at_ X1.out 6 rfl
 have mz:=Blk.lt X1.out
 go_wp2_with fail
 clear p4 pz q0 q1 q2 q3 q4 q5 q6 m0 m1 m2 m3 m4 m5 m6 qz mz
 refine (binary_any (pm i).op x0.kind x0.num x0.flt x0.str x0.ref x1.kind x1.num x1.flt x1.str x1.ref ⟨VK0.out.1,VK0.out.2.1⟩ ⟨VK1.out.1,VK1.out.2.1⟩ wY).mono ?_
 rintro e w2 ⟨⟨_,rfl,rc,rk,rn,rf,rt,rr,rfl,vr⟩,o2⟩
 have VR:Hid _:=vr
 have F3:Hid _:=(F2.out.onw o2).onw (Onw.alloc w2 (.cells #[.int .i64 rc,.int .i64 rk,.int .i64 rn,.float .f64 rf,.string rt,.int .i64 rr] 207))
 have X2:Hid _:=Blk.onw (Onw.trans o2 (Onw.alloc w2 (.cells #[.int .i64 rc,.int .i64 rk,.int .i64 rn,.float .f64 rf,.string rt,.int .i64 rr] 207))) X0'.out
 have X3:Hid _:=Blk.onw (Onw.trans o2 (Onw.alloc w2 (.cells #[.int .i64 rc,.int .i64 rk,.int .i64 rn,.float .f64 rf,.string rt,.int .i64 rr] 207))) X1.out
 have R2:Hid (Blk (w2.alloc (.cells #[.int .i64 rc,.int .i64 rk,.int .i64 rn,.float .f64 rf,.string rt,.int .i64 rr] 207)) w2.heap.size 207 #[.int .i64 rc,.int .i64 rk,.int .i64 rn,.float .f64 rf,.string rt,.int .i64 rr]):=Blk.new _ _ _
 have z2:ky < w2.heap.size:=Nat.lt_of_lt_of_le X1.out.lt o2.size
 clear vr o2
 go_upto_region 29 with (fail)
 generalize w2.alloc (.cells #[.int .i64 rc,.int .i64 rk,.int .i64 rn,.float .f64 rf,.string rt,.int .i64 rr] 207)=wR at*
 generalize w2.heap.size=kr at*
 have y0:=Blk.at_ F3.out.rb 0 rfl
 have y1:=Blk.at_ F3.out.rb 1 rfl
 have y2:=Blk.at_ F3.out.rb 2 rfl
 have y3:=Blk.at_ F3.out.rb 3 rfl
 have y4:=Blk.at_ F3.out.rb 4 rfl
 have y5:=Blk.at_ F3.out.rb 5 rfl
 have y6:=Blk.at_ F3.out.rb 6 rfl
 have yf:=Blk.free F3.out.rb
 have yz:=Blk.lt F3.out.rb
 have d0:=Blk.at_ F3.out.bb 0 rfl
 have d1:=Blk.at_ F3.out.bb 1 rfl
 have d2:=Blk.at_ F3.out.bb 2 rfl
 have d3:=Blk.at_ F3.out.bb 3 rfl
 have d4:=Blk.at_ F3.out.bb 4 rfl
 have d5:=Blk.at_ F3.out.bb 5 rfl
 have d6:=Blk.at_ F3.out.bb 6 rfl
 have df:=Blk.free F3.out.bb
 have dz:=Blk.lt F3.out.bb
 have g0:=Blk.at_ F3.out.gb 0 rfl
 have g1:=Blk.at_ F3.out.gb 1 rfl
 have g2:=Blk.at_ F3.out.gb 2 rfl
 have g3:=Blk.at_ F3.out.gb 3 rfl
 have g4:=Blk.at_ F3.out.gb 4 rfl
 have g5:=Blk.at_ F3.out.gb 5 rfl
 have g6:=Blk.at_ F3.out.gb 6 rfl
 have gf:=Blk.free F3.out.gb
 have gz:=Blk.lt F3.out.gb
 have q0:=Blk.at_ X2.out 0 rfl
 have q1:=Blk.at_ X2.out 1 rfl
 have q2:=Blk.at_ X2.out 2 rfl
 have q3:=Blk.at_ X2.out 3 rfl
 have q4:=Blk.at_ X2.out 4 rfl
 have q5:=Blk.at_ X2.out 5 rfl
 have q6:=Blk.at_ X2.out 6 rfl
 have qz:=Blk.lt X2.out
 have m0:=Blk.at_ X3.out 0 rfl
 have m1:=Blk.at_ X3.out 1 rfl
 have m2:=Blk.at_ X3.out 2 rfl
 have m3:=Blk.at_ X3.out 3 rfl
 have m4:=Blk.at_ X3.out 4 rfl
 have m5:=Blk.at_ X3.out 5 rfl
 have m6:=Blk.at_ X3.out 6 rfl
 have mz:=Blk.lt X3.out
 have u0:=Blk.at_ R2.out 0 rfl
 have u1:=Blk.at_ R2.out 1 rfl
 have u2:=Blk.at_ R2.out 2 rfl
 have u3:=Blk.at_ R2.out 3 rfl
 have u4:=Blk.at_ R2.out 4 rfl
 have u5:=Blk.at_ R2.out 5 rfl
 have uz:=Blk.lt R2.out
 have n03:w.heap.size≠w.heap.size+3:=Zo
 have n30:w.heap.size+3≠w.heap.size:=Zo
 have ne0:kx≠w.heap.size:=Zo
 have ne1:kx≠w.heap.size+3:=Zo
 have ne2:ky≠w.heap.size:=Zo
 have ne3:ky≠w.heap.size+3:=Zo
 have ne4:kr≠w.heap.size:=Zo
 have ne5:kr≠w.heap.size+3:=Zo
 have ne6:w.heap.size+2≠w.heap.size:=Zo
 have ne7:w.heap.size+2≠w.heap.size+3:=Zo
 by_cases hx:x0.code=0
 rotate_left
 ·exact J57
 by_cases hy:x1.code=0
 rotate_left
 ·exact J57
 by_cases hr:rc=0
 rotate_left
 ·exact J57
 go_wp2_with fail
 exact bodyPost_ret (v:= .agg #[.int .i64 i,.int .i64 0,.int .i64 rk,.int .i64 rn,.float .f64 rf,.string rt,.int .i64 rr]) J271 rfl ⟨⟨⟨0,rk,rn,rf,rt,rr⟩,rfl,VR.out⟩,bset (bset (bset (bset (bset (bset (bset (bset (bset (bset (bset (bset (F3.out.o) Zo _) Zo _) Zo _) Zo _) Zo _) Zo _) Zo _) Zo _) Zo _) Zo _) Zo _) Zo _⟩
end Go.Proofs.YtlibofjbhhdjdaaGreat
