import Derived.Test.YtlibofjbhhdjdaaGreatQ
import Derived.Test.YtlibofjbhhdjdaaGreatP11
set_option linter.unusedSimpArgs false
set_option maxRecDepth 100000
set_option maxHeartbeats 16000000
namespace Go.Proofs.YtlibofjbhhdjdaaGreat
open Go.RowKit
attribute [local go_sem] rsf
variable {FX:List SNm->Nat->CV->Prop} {B i np wp:Nat} {rs:Nat->Bool} {lp:Nat->Int} {R:Nat->List (List Value)} {own sz:Nat->Nat} {pm:Nat->PM} {P:St->Prop} {tv:Value} {w w' w0:World}
def BodyOk (w0:World) (wp:Nat) (tv:Value) (pd:Nat->PD) (FX:List SNm->Nat->CV->Prop) (sz:Nat->Nat) (i:Nat):Prop:=
 ∀(name:ByteArray) (w:World) (own:Nat->Nat) (V:Nat->Value) (R:Nat->List (List Value)) (B:Nat) (lp:Nat->Int) (rs:Nat->Bool) (l:Nat) (s:St),Ws w0 w wp tv own V R B lp rs->(R 2).length=l+1->s.At R->SFn s l->B+4000*sz i<=16000000->l+i<=3000->(0<=lp l/\lp l+(i:Int)<=3000)->
  Calls Tryz.prog 62 #[.pointer (some ⟨wp,0,none⟩),.int .i64 i,.string name] w fun e w'=>∃r:Nat,r<=16777216/\e= .returned (.int .i64 r)/\PostS w0 wp tv own w R (B+4000*sz i) lp rs w' (fun s'=>Rel pd FX l (lp l) (rs l) i s s'/\s'.sc=s.sc)
theorem PostS.from_ {w w1:World}(o:Onw w w1)(h:PostS w0 wp tv own w1 R B lp rs w' P):PostS w0 wp tv own w R B lp rs w' P:=by
 obtain ⟨own',V',R',s',a,b,c⟩:=h
 exact ⟨own',V',R',s',a,(Fr.onw o).trans b,c⟩
theorem PostS.imp {P Q:St->Prop}(h:PostS w0 wp tv own w R B lp rs w' P)(f:∀s,P s->Q s):PostS w0 wp tv own w R B lp rs w' Q:=by
 obtain ⟨own',V',R',s',a,b,c,d,e,g⟩:=h
 exact ⟨own',V',R',s',a,b,c,d,e,f _ g⟩
theorem PostS.then_ {own own1:Nat->Nat}{w w1:World}{R R1:Nat->List (List Value)}(f:Fr own own1 w w1)(l:(R1 2).length=(R 2).length)(m:Mono R R1)(h:PostS w0 wp tv own1 w1 R1 B lp rs w' P):PostS w0 wp tv own w R B lp rs w' P:=by
 obtain ⟨own',V',R',s',a,b,c,d,e,g⟩:=h
 exact ⟨own',V',R',s',a,f.trans b,c,d.trans l,Mono.trans m l e,g⟩
theorem expr_lit (tr:Tr w0 tv np pm sz)(hi:i < np)(hkk:20<=(pm i).kind/\(pm i).kind<=25)(h0:(pm i).nk=0):ExprOk w0 wp tv (pdOf pm) FX sz i:=by
 intro w own V R B lp rs l s h hl hs hf hB hll hlp
 obtain ⟨pa,pc,htv,ha⟩:=tr.at_
 obtain ⟨pb,po,hpa,hpc⟩:=ha.1 Zo
 obtain ⟨c0,c1,c2,c3,c4,c5,c6,c7,c8,c9⟩:=(hpc i hi).onw h.wk.ov
 have zc:=clt c0
 have b0:w.cell? ⟨wp,0,none⟩=some (.slice (some ⟨pb,po,none⟩) np pc):=Zi
 have zb:=h.blk.lt
 have i0:(0:Int)<=(i:Int):=Zo
 have i1:(i:Int) < (np:Int):=Zo
 have szi:=tr.szs i hi
 have HH:Hid _:=h
 have HL:Hid _:=hl
 have HS:Hid _:=hs
 have HF:Hid _:=hf
 have HT:Hid _:=tr
 have HA:Hid _:=ha
 have HTV:Hid _:=htv
 have HP:Hid _:=hpc
 have REL:Hid (Rel (pdOf pm) FX l (lp l) (rs l) i s s):=by
  refine relC.plain ?_ ?_
  ·show plainB (pm i).kind=true
   have:(pm i).kind=20\/(pm i).kind=21\/(pm i).kind=22\/(pm i).kind=23\/(pm i).kind=24\/(pm i).kind=25:=Zo
   rcases this with e|e|e|e|e|e <;> rw[e] <;> rfl
  ·show SeqR _ _ _ _ _ _ (pm i).nk _ _
   rw[h0];exact relC.snil
 have O1:Hid (Onw w (w.alloc (Obj.cells #[.int .i64 (pm i).kind,.int .i64 (pm i).frm,.int .i64 (pm i).tto,.int .i64 (pm i).line,.int .i64 (pm i).op,.int .i64 (pm i).num,.float .f64 (pm i).flt,.string (pm i).text,.slice (pm i).na (pm i).nn (pm i).nc,.slice (pm i).ka (pm i).nk (pm i).kc] 67))):=Onw.alloc w _
 have fin:Hid (∀{w':World},Post w0 wp tv own (w.alloc (Obj.cells #[.int .i64 (pm i).kind,.int .i64 (pm i).frm,.int .i64 (pm i).tto,.int .i64 (pm i).line,.int .i64 (pm i).op,.int .i64 (pm i).num,.float .f64 (pm i).flt,.string (pm i).text,.slice (pm i).na (pm i).nn (pm i).nc,.slice (pm i).ka (pm i).nk (pm i).kc] 67)) R (B+1) lp rs w'->PostS w0 wp tv own w R (B+4000*sz i) lp rs w' (fun s'=>Rel (pdOf pm) FX l (lp l) (rs l) i s s'/\s'.sc=s.sc)):=fun hp=>(PostS.from_ O1.out (hp.toS (P:=fun s'=>Rel (pdOf pm) FX l (lp l) (rs l) i s s'/\s'.sc=s.sc) HS.out rfl ⟨REL.out,rfl⟩)).more Zo
 have cs:(pm i).kind=20\/(pm i).kind=21\/(pm i).kind=22\/(pm i).kind=23\/(pm i).kind=24\/(pm i).kind=25:=Zo
 have CS:Hid _:=cs
 clear h hl hs hf tr ha hpc htv cs h0 hkk
 rcases CS.out with e|e|e|e|e|e
 ·have k20:((pm i).kind==20)=true:=J287
  clear e
  go_enter Tryz.func64,Tryz.ntmps64
  go_wp2_with fail
  refine (add_ws (HH.out.onw O1.out) Zo HL.out (ndM 20 0 0 {data:= #[]})).mono ?_
  exact J63
 ·have k20:((pm i).kind==20)=false:=J287
  have k21:((pm i).kind==21)=true:=J287
  clear e
  go_enter Tryz.func64,Tryz.ntmps64
  go_wp2_with fail
  refine (add_ws (HH.out.onw O1.out) Zo HL.out (ndM 21 0 0 {data:= #[]})).mono ?_
  exact J63
 ·have k20:((pm i).kind==20)=false:=J287
  have k21:((pm i).kind==21)=false:=J287
  have k22:((pm i).kind==22)=true:=J287
  clear e
  go_enter Tryz.func64,Tryz.ntmps64
  go_wp2_with fail
  refine (add_ws (HH.out.onw O1.out) Zo HL.out (ndM 22 0 0 {data:= #[]})).mono ?_
  exact J63
 ·have k20:((pm i).kind==20)=false:=J287
  have k21:((pm i).kind==21)=false:=J287
  have k22:((pm i).kind==22)=false:=J287
  have k23:((pm i).kind==23)=true:=J287
  clear e
  go_enter Tryz.func64,Tryz.ntmps64
  go_wp2_with fail
  refine (add_ws (HH.out.onw O1.out) Zo HL.out (ndM 23 (pm i).num 0 {data:= #[]})).mono ?_
  exact J63
 ·have k20:((pm i).kind==20)=false:=J287
  have k21:((pm i).kind==21)=false:=J287
  have k22:((pm i).kind==22)=false:=J287
  have k23:((pm i).kind==23)=false:=J287
  have k24:((pm i).kind==24)=true:=J287
  clear e
  go_enter Tryz.func64,Tryz.ntmps64
  go_wp2_with fail
  refine (add_ws (HH.out.onw O1.out) Zo HL.out (ndM 24 0 (pm i).flt {data:= #[]})).mono ?_
  exact J63
 ·have k20:((pm i).kind==20)=false:=J287
  have k21:((pm i).kind==21)=false:=J287
  have k22:((pm i).kind==22)=false:=J287
  have k23:((pm i).kind==23)=false:=J287
  have k24:((pm i).kind==24)=false:=J287
  have k25:((pm i).kind==25)=true:=J287
  clear e
  go_enter Tryz.func64,Tryz.ntmps64
  go_wp2_with fail
  refine (add_ws (HH.out.onw O1.out) Zo HL.out (ndM 25 0 0 (pm i).text)).mono ?_
  exact J63
theorem expr_name (tr:Tr w0 tv np pm sz)(hi:i < np)(hk:(pm i).kind=26):ExprOk w0 wp tv (pdOf pm) FX sz i:=by
 intro w own V R B lp rs l s h hl hs hf hB hll hlp
 obtain ⟨pa,pc,htv,ha⟩:=tr.at_
 obtain ⟨pb,po,hpa,hpc⟩:=ha.1 Zo
 obtain ⟨c0,c1,c2,c3,c4,c5,c6,c7,c8,c9⟩:=(hpc i hi).onw h.wk.ov
 have zc:=clt c0
 have b0:w.cell? ⟨wp,0,none⟩=some (.slice (some ⟨pb,po,none⟩) np pc):=Zi
 have zb:=h.blk.lt
 have i0:(0:Int)<=(i:Int):=Zo
 have i1:(i:Int) < (np:Int):=Zo
 have szi:=tr.szs i hi
 have HH:Hid _:=h
 have HL:Hid _:=hl
 have HS:Hid _:=hs
 have HF:Hid _:=hf
 have HT:Hid _:=tr
 have HA:Hid _:=ha
 have HTV:Hid _:=htv
 have HP:Hid _:=hpc
 have O1:Hid (Onw w (w.alloc (Obj.cells #[.int .i64 (pm i).kind,.int .i64 (pm i).frm,.int .i64 (pm i).tto,.int .i64 (pm i).line,.int .i64 (pm i).op,.int .i64 (pm i).num,.float .f64 (pm i).flt,.string (pm i).text,.slice (pm i).na (pm i).nn (pm i).nc,.slice (pm i).ka (pm i).nk (pm i).kc] 67))):=Onw.alloc w _
 have H1:Hid _:=HH.out.onw O1.out
 have k20:((pm i).kind==20)=false:=Zk
 have k21:((pm i).kind==21)=false:=Zk
 have k22:((pm i).kind==22)=false:=Zk
 have k23:((pm i).kind==23)=false:=Zk
 have k24:((pm i).kind==24)=false:=Zk
 have k25:((pm i).kind==25)=false:=Zk
 have k26:((pm i).kind==26)=true:=Zk
 have HKK:Hid _:=hk
 clear h hl hs hf tr ha hpc htv hk
 go_enter Tryz.func64,Tryz.ntmps64
 go_wp2_with fail
 refine (name_ws H1.out HL.out HS.out np pm pa pc HA.out HTV.out HT.out.npl i hi false Zo (fun x hx=>(HF.out x hx).1)).mono ?_
 rintro e w9 ⟨r,hr,rfl,hp⟩
 have P:Hid (PostS w0 wp tv own w R (B+4000*sz i) lp rs w9 (fun s'=>Rel (pdOf pm) FX l (lp l) (rs l) i s s'/\s'.sc=s.sc)):=((PostS.from_ O1.out hp).imp (fun s' e=>by rw[e];exact ⟨relC.name HKK.out,nameS_sc _ _ _ _ _⟩)).more Zo
 clear hp
 exact J71
theorem expr_fn (tr:Tr w0 tv np pm sz)(hi:i < np)(hk:(pm i).kind=36)(hbo:BodyOk w0 wp tv (pdOf pm) FX sz i):ExprOk w0 wp tv (pdOf pm) FX sz i:=by
 intro w own V R B lp rs l s h hl hs hf hB hll hlp
 obtain ⟨pa,pc,htv,ha⟩:=tr.at_
 obtain ⟨pb,po,hpa,hpc⟩:=ha.1 Zo
 obtain ⟨c0,c1,c2,c3,c4,c5,c6,c7,c8,c9⟩:=(hpc i hi).onw h.wk.ov
 have zc:=clt c0
 have b0:w.cell? ⟨wp,0,none⟩=some (.slice (some ⟨pb,po,none⟩) np pc):=Zi
 have zb:=h.blk.lt
 have i0:(0:Int)<=(i:Int):=Zo
 have i1:(i:Int) < (np:Int):=Zo
 have szi:=tr.szs i hi
 have HH:Hid _:=h
 have HL:Hid _:=hl
 have HS:Hid _:=hs
 have HF:Hid _:=hf
 have HT:Hid _:=tr
 have HA:Hid _:=ha
 have HTV:Hid _:=htv
 have HP:Hid _:=hpc
 have O1:Hid (Onw w (w.alloc (Obj.cells #[.int .i64 (pm i).kind,.int .i64 (pm i).frm,.int .i64 (pm i).tto,.int .i64 (pm i).line,.int .i64 (pm i).op,.int .i64 (pm i).num,.float .f64 (pm i).flt,.string (pm i).text,.slice (pm i).na (pm i).nn (pm i).nc,.slice (pm i).ka (pm i).nk (pm i).kc] 67))):=Onw.alloc w _
 have H1:Hid _:=HH.out.onw O1.out
 have k20:((pm i).kind==20)=false:=Zk
 have k21:((pm i).kind==21)=false:=Zk
 have k22:((pm i).kind==22)=false:=Zk
 have k23:((pm i).kind==23)=false:=Zk
 have k24:((pm i).kind==24)=false:=Zk
 have k25:((pm i).kind==25)=false:=Zk
 have k26:((pm i).kind==26)=false:=Zk
 have k27:((pm i).kind==27)=false:=Zk
 have k36:((pm i).kind==36)=true:=Zk
 have HB:Hid _:=hbo
 clear h hl hs hf tr ha hpc htv hk hbo
 go_enter Tryz.func64,Tryz.ntmps64
 go_wp2_with fail
 refine (HB.out {data:= #[]} _ own V R B lp rs l s H1.out HL.out HS.out HF.out hB hll hlp).mono ?_
 rintro e w9 ⟨r,hr,rfl,hp⟩
 have P:Hid _:=PostS.from_ O1.out hp
 clear hp
 exact J71
theorem expr_table (tr:Tr w0 tv np pm sz)(hi:i < np)(hk:(pm i).kind=35)(hta:TableOk w0 wp tv pm FX sz i):ExprOk w0 wp tv (pdOf pm) FX sz i:=by
 intro w own V R B lp rs l s h hl hs hf hB hll hlp
 obtain ⟨pa,pc,htv,ha⟩:=tr.at_
 obtain ⟨pb,po,hpa,hpc⟩:=ha.1 Zo
 obtain ⟨c0,c1,c2,c3,c4,c5,c6,c7,c8,c9⟩:=(hpc i hi).onw h.wk.ov
 have zc:=clt c0
 have b0:w.cell? ⟨wp,0,none⟩=some (.slice (some ⟨pb,po,none⟩) np pc):=Zi
 have zb:=h.blk.lt
 have i0:(0:Int)<=(i:Int):=Zo
 have i1:(i:Int) < (np:Int):=Zo
 have szi:=tr.szs i hi
 have HH:Hid _:=h
 have HL:Hid _:=hl
 have HS:Hid _:=hs
 have HF:Hid _:=hf
 have HT:Hid _:=tr
 have HA:Hid _:=ha
 have HTV:Hid _:=htv
 have HP:Hid _:=hpc
 have O1:Hid (Onw w (w.alloc (Obj.cells #[.int .i64 (pm i).kind,.int .i64 (pm i).frm,.int .i64 (pm i).tto,.int .i64 (pm i).line,.int .i64 (pm i).op,.int .i64 (pm i).num,.float .f64 (pm i).flt,.string (pm i).text,.slice (pm i).na (pm i).nn (pm i).nc,.slice (pm i).ka (pm i).nk (pm i).kc] 67))):=Onw.alloc w _
 have H1:Hid _:=HH.out.onw O1.out
 have k20:((pm i).kind==20)=false:=Zk
 have k21:((pm i).kind==21)=false:=Zk
 have k22:((pm i).kind==22)=false:=Zk
 have k23:((pm i).kind==23)=false:=Zk
 have k24:((pm i).kind==24)=false:=Zk
 have k25:((pm i).kind==25)=false:=Zk
 have k26:((pm i).kind==26)=false:=Zk
 have k27:((pm i).kind==27)=false:=Zk
 have k36:((pm i).kind==36)=false:=Zk
 have k35:((pm i).kind==35)=true:=Zk
 have HB:Hid _:=hta
 have HKK:Hid _:=hk
 clear h hl hs hf tr ha hpc htv hk hta
 go_enter Tryz.func64,Tryz.ntmps64
 go_wp2_with fail
 refine (HB.out _ own V R B lp rs l s H1.out HL.out HS.out HF.out hB hll hlp).mono ?_
 rintro e w9 ⟨r,hr,rfl,hp⟩
 have P:Hid (PostS w0 wp tv own w R (B+4000*sz i) lp rs w9 (fun s'=>Rel (pdOf pm) FX l (lp l) (rs l) i s s'/\s'.sc=s.sc)):=(PostS.from_ O1.out hp).imp (fun s' e=>⟨relC.plain J273 e.1,e.2⟩)
 clear hp
 exact J71
theorem expr_rest (tr:Tr w0 tv np pm sz)(hi:i < np)(hk:(pm i).kind=27):ExprOk w0 wp tv (pdOf pm) FX sz i:=by
 intro w own V R B lp rs l s h hl hs hf hB hll hlp
 obtain ⟨pa,pc,htv,ha⟩:=tr.at_
 obtain ⟨pb,po,hpa,hpc⟩:=ha.1 Zo
 obtain ⟨c0,c1,c2,c3,c4,c5,c6,c7,c8,c9⟩:=(hpc i hi).onw h.wk.ov
 have zc:=clt c0
 have b0:w.cell? ⟨wp,0,none⟩=some (.slice (some ⟨pb,po,none⟩) np pc):=Zi
 have zb:=h.blk.lt
 have i0:(0:Int)<=(i:Int):=Zo
 have i1:(i:Int) < (np:Int):=Zo
 have szi:=tr.szs i hi
 have HH:Hid _:=h
 have HL:Hid _:=hl
 have HS:Hid _:=hs
 have HF:Hid _:=hf
 have HT:Hid _:=tr
 have HA:Hid _:=ha
 have HTV:Hid _:=htv
 have HP:Hid _:=hpc
 have O1:Hid (Onw w (w.alloc (Obj.cells #[.int .i64 (pm i).kind,.int .i64 (pm i).frm,.int .i64 (pm i).tto,.int .i64 (pm i).line,.int .i64 (pm i).op,.int .i64 (pm i).num,.float .f64 (pm i).flt,.string (pm i).text,.slice (pm i).na (pm i).nn (pm i).nc,.slice (pm i).ka (pm i).nk (pm i).kc] 67))):=Onw.alloc w _
 have H1:Hid _:=HH.out.onw O1.out
 have k20:((pm i).kind==20)=false:=Zk
 have k21:((pm i).kind==21)=false:=Zk
 have k22:((pm i).kind==22)=false:=Zk
 have k23:((pm i).kind==23)=false:=Zk
 have k24:((pm i).kind==24)=false:=Zk
 have k25:((pm i).kind==25)=false:=Zk
 have k26:((pm i).kind==26)=false:=Zk
 have k27:((pm i).kind==27)=true:=Zk
 have HKK:Hid _:=hk
 have hlb:l+1<=16777216:=Zo
 clear h hl hs hf tr ha hpc htv hk
 go_enter Tryz.func64,Tryz.ntmps64
 go_wp2_with fail
 obtain ⟨g,cap,hv2,hcall⟩:=fn_wk H1.out.wk l HL.out hlb
 refine hcall.mono ?_
 rintro e w1 ⟨rfl,o1⟩
 have O2:Hid (Onw w w1):=O1.out.trans o1
 have h2:=H1.out.onw o1
 obtain ⟨g',cap',cells,hv,hnc,ho,hkk,hcl,hL,hcc,hfz⟩:=h2.level (k:=l) (by have:=HL.out;omega)
 have hg':g'=g:=Ze
 subst hg'
 obtain ⟨num,nam,ln,pr,vv,uv,nv,vls,us,ns,hcells,rv,ru,rn,hus,lv,lu,lnn⟩:=hL
 have c4':w1.cell? ⟨g',l*9+1+3,none⟩=some (.bool (rs l)):=by rw[show l*9+1+3=l*9+4 by omega,hcc 4 Zo,hcells];rfl
 have zg:=clt c4'
 have H2:Hid _:=h2
 clear hcall hv2 o1 h2 hv hnc ho hkk hcl hcc hfz hcells rv ru rn hus
 rcases Bool.eq_false_or_eq_true (rs l) with hr|hr
 ·have REL:Hid (Rel (pdOf pm) FX l (lp l) (rs l) i s s):=by
   exact J160
  go_wp2_with fail
  refine (add_ws H2.out Zo HL.out (ndM 37 0 0 {data:= #[]})).mono ?_
  rintro e w9 ⟨r,hr,rfl,hp⟩
  have P:Hid (PostS w0 wp tv own w R (B+4000*sz i) lp rs w9 (fun s'=>Rel (pdOf pm) FX l (lp l) (rs l) i s s'/\s'.sc=s.sc)):=(PostS.from_ O2.out (hp.toS (P:=fun s'=>Rel (pdOf pm) FX l (lp l) (rs l) i s s'/\s'.sc=s.sc) HS.out rfl ⟨REL.out,rfl⟩)).more Zo
  clear hp
  exact J71
 ·have REL:Hid (Rel (pdOf pm) FX l (lp l) (rs l) i s (s.fault 5 i)):=by
   exact J160
  go_wp2_with fail
  refine (fault_ws H2.out Zo 5 i).mono ?_
  rintro e w3 ⟨rfl,own3,V3,R3,h3,f3,s3⟩
  have H3:Hid _:=h3
  have L3:Hid ((R3 2).length=l+1):=s3.len.trans HL.out
  have F3:Hid (Fr own own3 w w3):=(Fr.onw O2.out).trans f3
  have A3:Hid _:=(HS.out.fault 5 i).same s3
  have M3:Hid (Mono R R3):=s3.mono
  clear h3 f3 s3
  go_wp2_with fail
  refine (add_ws H3.out Zo L3.out (ndM 37 0 0 {data:= #[]})).mono ?_
  rintro e w9 ⟨r,hr,rfl,hp⟩
  have P:Hid (PostS w0 wp tv own w R (B+4000*sz i) lp rs w9 (fun s'=>Rel (pdOf pm) FX l (lp l) (rs l) i s s'/\s'.sc=s.sc)):=(PostS.then_ F3.out (L3.out.trans HL.out.symm) M3.out (hp.toS (P:=fun s'=>Rel (pdOf pm) FX l (lp l) (rs l) i s s'/\s'.sc=s.sc) A3.out rfl ⟨REL.out,rfl⟩)).more Zo
  clear hp
  exact J71
theorem expr_field (tr:Tr w0 tv np pm sz)(hi:i < np)(hk:(pm i).kind=33)(hnk:(pm i).nk=1)(hex:ExprOk w0 wp tv (pdOf pm) FX sz ((pm i).kd 0).toNat):ExprOk w0 wp tv (pdOf pm) FX sz i:=by
 intro w own V R B lp rs l s h hl hs hf hB hll hlp
 obtain ⟨pa,pc,htv,ha⟩:=tr.at_
 obtain ⟨pb,po,hpa,hpc⟩:=ha.1 Zo
 obtain ⟨c0,c1,c2,c3,c4,c5,c6,c7,c8,c9⟩:=(hpc i hi).onw h.wk.ov
 have zc:=clt c0
 have b0:w.cell? ⟨wp,0,none⟩=some (.slice (some ⟨pb,po,none⟩) np pc):=Zi
 have zb:=h.blk.lt
 have i0:(0:Int)<=(i:Int):=Zo
 have i1:(i:Int) < (np:Int):=Zo
 have szi:=tr.szs i hi
 have HH:Hid _:=h
 have HL:Hid _:=hl
 have HS:Hid _:=hs
 have HF:Hid _:=hf
 have HT:Hid _:=tr
 have HA:Hid _:=ha
 have HTV:Hid _:=htv
 have HP:Hid _:=hpc
 have HKK:Hid _:=hk
 have HE:Hid _:=hex
 obtain ⟨eb,eo,heb,hec⟩:=(ha.2 i hi).2 Zo
 rw[heb] at c9
 clear heb
 have O1:Hid (Onw w (w.alloc (Obj.cells #[.int .i64 (pm i).kind,.int .i64 (pm i).frm,.int .i64 (pm i).tto,.int .i64 (pm i).line,.int .i64 (pm i).op,.int .i64 (pm i).num,.float .f64 (pm i).flt,.string (pm i).text,.slice (pm i).na (pm i).nn (pm i).nc,.slice (some ⟨eb,eo,none⟩) (pm i).nk (pm i).kc] 67))):=Onw.alloc w _
 have H1:Hid _:=HH.out.onw O1.out
 have k20:((pm i).kind==20)=false:=Zk
 have k21:((pm i).kind==21)=false:=Zk
 have k22:((pm i).kind==22)=false:=Zk
 have k23:((pm i).kind==23)=false:=Zk
 have k24:((pm i).kind==24)=false:=Zk
 have k25:((pm i).kind==25)=false:=Zk
 have k26:((pm i).kind==26)=false:=Zk
 have k27:((pm i).kind==27)=false:=Zk
 have k36:((pm i).kind==36)=false:=Zk
 have k35:((pm i).kind==35)=false:=Zk
 have k33:((pm i).kind==33)=true:=Zk
 obtain ⟨a0,ha0⟩:∃a0:Nat,(pm i).kd 0=a0:=⟨((pm i).kd 0).toNat,by have:=(tr.kid i hi 0 Zo).1;omega⟩
 have ha1:a0 < i:=by have:=(tr.kid i hi 0 Zo).2;omega
 have y0:=con HH.out.wk.ov (hec 0 Zo)
 rw[ha0,Nat.add_zero] at y0
 have zy:=clt y0
 have hsz:sz a0+1<=sz i:=by
  exact J102
 have A0:Hid _:=ha0
 have HE0:Hid (ExprOk w0 wp tv (pdOf pm) FX sz a0):=by
  have e:=HE.out
  rw[ha0] at e
  exact e
 have HNK:Hid _:=hnk
 have n0:(0:Int) < ((pm i).nk:Int):=Zo
 clear h hl hs hf tr ha hpc htv hk hex hec ha0 hnk
 go_enter Tryz.func64,Tryz.ntmps64
 go_wp2_with fail
 refine (HE0.out _ own V R B lp rs l s H1.out HL.out HS.out HF.out Zo Zo ⟨hlp.1,by have:=hlp.2;omega⟩).mono ?_
 rintro e w2 ⟨x,hx,rfl,own2,V2,R2,s2,h2,f2,a2,l2,m2,r2,e2⟩
 have H2:Hid _:=h2
 have L2:Hid ((R2 2).length=l+1):=l2.trans HL.out
 have F2:Hid (Fr own own2 w w2):=(Fr.onw O1.out).trans f2
 have A2:Hid _:=a2
 have M2:Hid (Mono R R2):=m2
 have REL:Hid (Rel (pdOf pm) FX l (lp l) (rs l) i s s2):=by
  refine relC.plain J273 ?_
  show SeqR _ _ _ _ _ (pm i).kd (pm i).nk _ _
  rw[HNK.out]
  exact relC.ssnoc relC.snil (by rw[A0.out];exact r2)
 have E2:Hid _:=e2
 have PB:=(f2.kept w.heap.size ⟨by simp,HH.out.wk.high _ (Nat.le_refl _)⟩).trans (Blk.new w 67 #[.int .i64 (pm i).kind,.int .i64 (pm i).frm,.int .i64 (pm i).tto,.int .i64 (pm i).line,.int .i64 (pm i).op,.int .i64 (pm i).num,.float .f64 (pm i).flt,.string (pm i).text,.slice (pm i).na (pm i).nn (pm i).nc,.slice (some ⟨eb,eo,none⟩) (pm i).nk (pm i).kc])
 have p7:=Blk.at_ PB 7 rfl
 have zp:=Blk.lt PB
 clear h2 l2 f2 a2 m2 r2 e2 PB
 go_wp2_with fail
 refine (add_ws H2.out Zo L2.out (ndM 25 0 0 (pm i).text)).mono ?_
 rintro e w3 ⟨y,hy,rfl,own3,V3,R3,h3,f3,s3⟩
 have H3:Hid _:=h3
 have L3:Hid ((R3 2).length=l+1):=s3.len.trans L2.out
 have F3:Hid (Fr own own3 w w3):=F2.out.trans f3
 have A3:Hid _:=A2.out.same s3
 have M3:Hid (Mono R R3):=Mono.trans M2.out (L2.out.trans HL.out.symm) s3.mono
 clear h3 f3 s3
 go_wp2_with fail
 refine (add_ws (H3.out.onw (Onw.alloc _ _)) Zo L3.out ⟨⟨33,0,0,0,0,{data:= #[]},0,fun _=>0,2,fun _=>0⟩,none,0,some ⟨w3.heap.size,0,none⟩,2⟩).mono ?_
 rintro e w9 ⟨r,hr,rfl,hp⟩
 have P:Hid (PostS w0 wp tv own w R (B+4000*sz i) lp rs w9 (fun s'=>Rel (pdOf pm) FX l (lp l) (rs l) i s s'/\s'.sc=s.sc)):=(PostS.then_ (F3.out.trans (Fr.onw (Onw.alloc _ _))) (L3.out.trans HL.out.symm) M3.out (hp.toS (P:=fun s'=>Rel (pdOf pm) FX l (lp l) (rs l) i s s'/\s'.sc=s.sc) A3.out rfl ⟨REL.out,E2.out⟩)).more Zo
 clear hp
 exact J71
theorem expr_more (tr:Tr w0 tv np pm sz)(hi:i < np)(hk:(28<=(pm i).kind/\(pm i).kind<=32)\/(pm i).kind=34\/(pm i).kind=37)(hex:∀q,q < (pm i).nk->ExprOk w0 wp tv (pdOf pm) FX sz ((pm i).kd q).toNat):ExprOk w0 wp tv (pdOf pm) FX sz i:=by
 intro w own V R B lp rs l s h hl hs hf hB hll hlp
 obtain ⟨pa,pc,htv,ha⟩:=tr.at_
 obtain ⟨pb,po,hpa,hpc⟩:=ha.1 Zo
 obtain ⟨c0,c1,c2,c3,c4,c5,c6,c7,c8,c9⟩:=(hpc i hi).onw h.wk.ov
 have zc:=clt c0
 have b0:w.cell? ⟨wp,0,none⟩=some (.slice (some ⟨pb,po,none⟩) np pc):=Zi
 have zb:=h.blk.lt
 have i0:(0:Int)<=(i:Int):=Zo
 have i1:(i:Int) < (np:Int):=Zo
 have szi:=tr.szs i hi
 have HH:Hid _:=h
 have HL:Hid _:=hl
 have HS:Hid _:=hs
 have HF:Hid _:=hf
 have HT:Hid _:=tr
 have HA:Hid _:=ha
 have HTV:Hid _:=htv
 have HP:Hid _:=hpc
 have O1:Hid (Onw w (w.alloc (Obj.cells #[.int .i64 (pm i).kind,.int .i64 (pm i).frm,.int .i64 (pm i).tto,.int .i64 (pm i).line,.int .i64 (pm i).op,.int .i64 (pm i).num,.float .f64 (pm i).flt,.string (pm i).text,.slice (pm i).na (pm i).nn (pm i).nc,.slice (pm i).ka (pm i).nk (pm i).kc] 67))):=Onw.alloc w _
 have H1:Hid _:=HH.out.onw O1.out
 have k20:((pm i).kind==20)=false:=Zd
 have k21:((pm i).kind==21)=false:=Zd
 have k22:((pm i).kind==22)=false:=Zd
 have k23:((pm i).kind==23)=false:=Zd
 have k24:((pm i).kind==24)=false:=Zd
 have k25:((pm i).kind==25)=false:=Zd
 have k26:((pm i).kind==26)=false:=Zd
 have k27:((pm i).kind==27)=false:=Zd
 have k36:((pm i).kind==36)=false:=Zd
 have k35:((pm i).kind==35)=false:=Zd
 have k33:((pm i).kind==33)=false:=Zd
 have HPL:Hid (plainB (pm i).kind=true):=by
  show _=_
  have:(pm i).kind=28\/(pm i).kind=29\/(pm i).kind=30\/(pm i).kind=31\/(pm i).kind=32\/(pm i).kind=34\/(pm i).kind=37:=Zo
  rcases this with e|e|e|e|e|e|e <;> rw[e] <;> rfl
 have HE:Hid _:=hex
 have HKI:Hid _:=(ha.2 i hi).2
 have nk2:=tr.nkl i hi
 have PB:=Blk.new w 67 #[.int .i64 (pm i).kind,.int .i64 (pm i).frm,.int .i64 (pm i).tto,.int .i64 (pm i).line,.int .i64 (pm i).op,.int .i64 (pm i).num,.float .f64 (pm i).flt,.string (pm i).text,.slice (pm i).na (pm i).nn (pm i).nc,.slice (pm i).ka (pm i).nk (pm i).kc]
 have o0:Hid (own w.heap.size=0):=HH.out.wk.high _ (Nat.le_refl _)
 clear h hl hs hf tr ha hpc htv hk hex
 go_enter Tryz.func64,Tryz.ntmps64
 go_wp2_with fail
 have KB:=Blk.new (w.alloc (Obj.cells #[.int .i64 (pm i).kind,.int .i64 (pm i).frm,.int .i64 (pm i).tto,.int .i64 (pm i).line,.int .i64 (pm i).op,.int .i64 (pm i).num,.float .f64 (pm i).flt,.string (pm i).text,.slice (pm i).na (pm i).nn (pm i).nc,.slice (pm i).ka (pm i).nk (pm i).kc] 67)) 3 #[.int .i64 28,.int .i64 29,.int .i64 29,.int .i64 30,.int .i64 30,.int .i64 31,.int .i64 31,.int .i64 32,.int .i64 32,.int .i64 33,.int .i64 34,.int .i64 34,.int .i64 37,.int .i64 38]
 rw[World.size_alloc] at KB
 have PK:=PB.onw (Onw.alloc _ (Obj.cells #[.int .i64 28,.int .i64 29,.int .i64 29,.int .i64 30,.int .i64 30,.int .i64 31,.int .i64 31,.int .i64 32,.int .i64 32,.int .i64 33,.int .i64 34,.int .i64 34,.int .i64 37,.int .i64 38] 3))
 have OK:Hid _:=O1.out.trans (Onw.alloc _ (Obj.cells #[.int .i64 28,.int .i64 29,.int .i64 29,.int .i64 30,.int .i64 30,.int .i64 31,.int .i64 31,.int .i64 32,.int .i64 32,.int .i64 33,.int .i64 34,.int .i64 34,.int .i64 37,.int .i64 38] 3))
 have HK:Hid _:=HH.out.onw OK.out
 have oK:Hid (own (w.heap.size+1)=0):=HH.out.wk.high _ Zo
 clear PB O1 H1
 generalize (w.alloc (Obj.cells #[.int .i64 (pm i).kind,.int .i64 (pm i).frm,.int .i64 (pm i).tto,.int .i64 (pm i).line,.int .i64 (pm i).op,.int .i64 (pm i).num,.float .f64 (pm i).flt,.string (pm i).text,.slice (pm i).na (pm i).nn (pm i).nc,.slice (pm i).ka (pm i).nk (pm i).kc] 67)).alloc (Obj.cells #[.int .i64 28,.int .i64 29,.int .i64 29,.int .i64 30,.int .i64 30,.int .i64 31,.int .i64 31,.int .i64 32,.int .i64 32,.int .i64 33,.int .i64 34,.int .i64 34,.int .i64 37,.int .i64 38] 3)=wK at*
 have p4:=Blk.at_ PK 4 rfl
 have p9:=Blk.at_ PK 9 rfl
 have zP:=Blk.lt PK
 have nKP:wK.heap.size≠w.heap.size:=Zo
 have nPK:w.heap.size≠wK.heap.size:=Zo
 have zK:=Blk.lt KB
 have PK':Hid _:=PK
 have KB':Hid _:=KB
 have seq:Hid (∀{wx:World},Onw wK wx->Calls Tryz.prog 59 #[.pointer (some ⟨wp,0,none⟩),.slice (pm i).ka (pm i).nk (pm i).kc] wx fun e w'=>∃(oa:Option Addr) (oc:Nat),e= .returned (.slice oa (pm i).nk oc)/\∃own' V' R' s',Ws w0 w' wp tv own' V' R' (B+4000*psum sz (pm i).kd (pm i).nk) lp rs/\Fr own own' wK w'/\St.At s' R'/\(R' 2).length=(R 2).length/\Mono R R'/\SeqR (pdOf pm) FX l (lp l) (rs l) (pm i).kd (pm i).nk s s'/\s'.sc=s.sc/\wx.heap.size<=w'.heap.size/\∀k,wK.heap.size<=k->k < wx.heap.size->own' k=0/\w'.heap[k]?= wx.heap[k]?):=fun {wx} o=>(exprs_ws (HK.out.onw o) HL.out HS.out HF.out (pm i).ka (pm i).nk (pm i).kc (pm i).kd HKI.out nk2 hlp.1 (fun q hq=>by have:=HT.out.kid i hi q hq;have:=hlp.2;omega) Zo (fun q hq=>HE.out q hq)).mono (by rintro e w' ⟨oa,oc,he,own',V',R',s',q1,q2,q3,q4,q5,q6,q7,_⟩;exact ⟨oa,oc,he,own',V',R',s',q1,(Fr.onw o).trans q2,q3,q4,q5,q6,q7,q2.size,fun k hk hk2=>⟨by rw[q2.tags k hk2];exact HK.out.wk.high k hk,q2.kept k ⟨hk2,HK.out.wk.high k hk⟩⟩⟩)
 clear PK KB
 go_cut [9] (fun np wd=>∃(nb:Nat) (oa:Option Addr) (oc:Nat) (own':Nat->Nat) (V':Nat->Value) (R':Nat->List (List Value)) (s':St),np= .pointer (some ⟨nb,0,none⟩)/\w.heap.size+2<=nb/\Ws w0 wd wp tv own' V' R' (B+4000*psum sz (pm i).kd (pm i).nk) lp rs/\Fr own own' w wd/\St.At s' R'/\(R' 2).length=(R 2).length/\Mono R R'/\SeqR (pdOf pm) FX l (lp l) (rs l) (pm i).kd (pm i).nk s s'/\s'.sc=s.sc/\Blk wd nb 97 #[.int .i64 0,.int .i64 0,.int .i64 (pm i).op,.int .i64 0,.float .f64 0,.string {data:= #[]},.slice none 0 0,.slice oa (pm i).nk oc]/\own' nb=0/\Blk wd w.heap.size 67 #[.int .i64 (pm i).kind,.int .i64 (pm i).frm,.int .i64 (pm i).tto,.int .i64 (pm i).line,.int .i64 (pm i).op,.int .i64 (pm i).num,.float .f64 (pm i).flt,.string (pm i).text,.slice (pm i).na (pm i).nn (pm i).nc,.slice (pm i).ka (pm i).nk (pm i).kc]/\Blk wd (w.heap.size+1) 3 #[.int .i64 28,.int .i64 29,.int .i64 29,.int .i64 30,.int .i64 30,.int .i64 31,.int .i64 31,.int .i64 32,.int .i64 32,.int .i64 33,.int .i64 34,.int .i64 34,.int .i64 37,.int .i64 38])
 case first=>
  go_region_held3 (fun w'=>w'.cell? ⟨w.heap.size,4,none⟩=some (.int .i64 (pm i).op)/\w'.cell? ⟨w.heap.size,9,none⟩=some (.slice (pm i).ka (pm i).nk (pm i).kc))
   (first
    |go_keep
    |exact ⟨(Blk.cell PB5 4).trans rfl,(Blk.cell PB5 9).trans rfl⟩
    |exact ⟨(Blk.cell (Blk.onw (Onw.alloc _ _) PB5) 4).trans rfl,(Blk.cell (Blk.onw (Onw.alloc _ _) PB5) 9).trans rfl⟩)
   (first
    |(go_at_call 59;refine (seq.out (by first|exact Below.drew (Onw.refl _)|exact (Below.drew (Onw.refl _)).trans (Onw.alloc _ _)|exact Below.drew (Onw.alloc _ _))).mono ?_;rintro e w5 ⟨oa,oc,rfl,own5,V5,R5,s5,h5,f5,a5,l5,m5,q5,e5,z5,t5⟩;have PB5:Blk w5 w.heap.size 67 #[.int .i64 (pm i).kind,.int .i64 (pm i).frm,.int .i64 (pm i).tto,.int .i64 (pm i).line,.int .i64 (pm i).op,.int .i64 (pm i).num,.float .f64 (pm i).flt,.string (pm i).text,.slice (pm i).na (pm i).nn (pm i).nc,.slice (pm i).ka (pm i).nk (pm i).kc]:=(f5.kept w.heap.size ⟨zP,o0.out⟩).trans PK'.out;have s4:w5.cell? ⟨w.heap.size,4,none⟩=some (.int .i64 (pm i).op):=(Blk.cell PB5 4).trans rfl;have s9:w5.cell? ⟨w.heap.size,9,none⟩=some (.slice (pm i).ka (pm i).nk (pm i).kc):=(Blk.cell PB5 9).trans rfl;have z5P:=Blk.lt PB5;(first|(have NB5:Blk w5 wK.heap.size 97 #[.int .i64 0,.int .i64 0,.int .i64 0,.int .i64 0,.float .f64 0,.string {data:= #[]},.slice none 0 0,.slice none 0 0]:=(t5 wK.heap.size (Nat.le_refl _) J269).2.trans (by first|exact Blk.new wK.drew _ _|exact Blk.new wK _ _);have y0:w5.cell? ⟨wK.heap.size,0,none⟩=some (.int .i64 0):=(Blk.cell NB5 0).trans rfl;have y1:w5.cell? ⟨wK.heap.size,1,none⟩=some (.int .i64 0):=(Blk.cell NB5 1).trans rfl;have y2:w5.cell? ⟨wK.heap.size,2,none⟩=some (.int .i64 0):=(Blk.cell NB5 2).trans rfl;have y3:w5.cell? ⟨wK.heap.size,3,none⟩=some (.int .i64 0):=(Blk.cell NB5 3).trans rfl;have y4:w5.cell? ⟨wK.heap.size,4,none⟩=some (.float .f64 0):=(Blk.cell NB5 4).trans rfl;have y5:w5.cell? ⟨wK.heap.size,5,none⟩=some (.string {data:= #[]}):=(Blk.cell NB5 5).trans rfl;have y6:w5.cell? ⟨wK.heap.size,6,none⟩=some (.slice none 0 0):=(Blk.cell NB5 6).trans rfl;have y7:w5.cell? ⟨wK.heap.size,7,none⟩=some (.slice none 0 0):=(Blk.cell NB5 7).trans rfl;have yf:=Blk.free NB5;have zN:=Blk.lt NB5)|skip)))
  ·have KB5:=(f5.kept (w.heap.size+1) ⟨zK,oK.out⟩).trans KB'.out
   have FIN:Hid (∃(nb:Nat) (oa':Option Addr) (oc':Nat) (own':Nat->Nat) (V':Nat->Value) (R':Nat->List (List Value)) (s':St),Value.pointer (some ⟨w5.heap.size,0,none⟩)= .pointer (some ⟨nb,0,none⟩)/\w.heap.size+2<=nb/\Ws w0 (w5.alloc (Obj.cells #[.int .i64 0,.int .i64 0,.int .i64 (pm i).op,.int .i64 0,.float .f64 0,.string {data:= #[]},.slice none 0 0,.slice oa (pm i).nk oc] 97)) wp tv own' V' R' (B+4000*psum sz (pm i).kd (pm i).nk) lp rs/\Fr own own' w (w5.alloc (Obj.cells #[.int .i64 0,.int .i64 0,.int .i64 (pm i).op,.int .i64 0,.float .f64 0,.string {data:= #[]},.slice none 0 0,.slice oa (pm i).nk oc] 97))/\St.At s' R'/\(R' 2).length=(R 2).length/\Mono R R'/\SeqR (pdOf pm) FX l (lp l) (rs l) (pm i).kd (pm i).nk s s'/\s'.sc=s.sc/\Blk (w5.alloc (Obj.cells #[.int .i64 0,.int .i64 0,.int .i64 (pm i).op,.int .i64 0,.float .f64 0,.string {data:= #[]},.slice none 0 0,.slice oa (pm i).nk oc] 97)) nb 97 #[.int .i64 0,.int .i64 0,.int .i64 (pm i).op,.int .i64 0,.float .f64 0,.string {data:= #[]},.slice none 0 0,.slice oa' (pm i).nk oc']/\own' nb=0/\Blk (w5.alloc (Obj.cells #[.int .i64 0,.int .i64 0,.int .i64 (pm i).op,.int .i64 0,.float .f64 0,.string {data:= #[]},.slice none 0 0,.slice oa (pm i).nk oc] 97)) w.heap.size 67 #[.int .i64 (pm i).kind,.int .i64 (pm i).frm,.int .i64 (pm i).tto,.int .i64 (pm i).line,.int .i64 (pm i).op,.int .i64 (pm i).num,.float .f64 (pm i).flt,.string (pm i).text,.slice (pm i).na (pm i).nn (pm i).nc,.slice (pm i).ka (pm i).nk (pm i).kc]/\Blk (w5.alloc (Obj.cells #[.int .i64 0,.int .i64 0,.int .i64 (pm i).op,.int .i64 0,.float .f64 0,.string {data:= #[]},.slice none 0 0,.slice oa (pm i).nk oc] 97)) (w.heap.size+1) 3 #[.int .i64 28,.int .i64 29,.int .i64 29,.int .i64 30,.int .i64 30,.int .i64 31,.int .i64 31,.int .i64 32,.int .i64 32,.int .i64 33,.int .i64 34,.int .i64 34,.int .i64 37,.int .i64 38]):=⟨w5.heap.size,oa,oc,own5,V5,R5,s5,rfl,by have:=f5.size;omega,h5.onw (Onw.alloc _ _),((Fr.onw OK.out).trans f5).trans (Fr.onw (Onw.alloc _ _)),a5,l5,m5,q5,e5,Blk.new _ _ _,h5.wk.high _ (Nat.le_refl _),Blk.onw (Onw.alloc _ _) PB5,Blk.onw (Onw.alloc _ _) KB5⟩
   clear h5 f5 a5 l5 m5 q5 e5 z5 t5 PB5 KB5
   go_wp2_with fail
   go_meet
   case rel=>exact FIN.out
  ·have KB5:=(f5.kept (w.heap.size+1) ⟨zK,oK.out⟩).trans KB'.out
   have oN:=(t5 wK.heap.size (Nat.le_refl _) J269).1
   have zN0:w0.heap.size<=wK.heap.size:=HK.out.wk.ov.size
   have yN:w.heap.size<=wK.heap.size:=Zo
   have nKN:w.heap.size+1≠wK.heap.size:=Zo
   have tW:Hid _:=Ws.store (Ws.store (Ws.store (Ws.store (Ws.store (Ws.store (Ws.store (Ws.store (h5) oN zN0 0 (.int .i64 0)) oN zN0 1 (.int .i64 0)) oN zN0 2 (.int .i64 (pm i).op)) oN zN0 3 (.int .i64 0)) oN zN0 4 (.float .f64 0)) oN zN0 5 (.string {data:= #[]})) oN zN0 6 (.slice none 0 0)) oN zN0 7 (.slice oa (pm i).nk oc)
   have tF:Hid _:=Fr.store (Fr.store (Fr.store (Fr.store (Fr.store (Fr.store (Fr.store (Fr.store ((Fr.onw OK.out).trans f5) yN 0 (.int .i64 0)) yN 1 (.int .i64 0)) yN 2 (.int .i64 (pm i).op)) yN 3 (.int .i64 0)) yN 4 (.float .f64 0)) yN 5 (.string {data:= #[]})) yN 6 (.slice none 0 0)) yN 7 (.slice oa (pm i).nk oc)
   have tP:Hid _:=Blk.far (Blk.far (Blk.far (Blk.far (Blk.far (Blk.far (Blk.far (Blk.far (PB5) nPK 0 (.int .i64 0)) nPK 1 (.int .i64 0)) nPK 2 (.int .i64 (pm i).op)) nPK 3 (.int .i64 0)) nPK 4 (.float .f64 0)) nPK 5 (.string {data:= #[]})) nPK 6 (.slice none 0 0)) nPK 7 (.slice oa (pm i).nk oc)
   have tK:Hid _:=Blk.far (Blk.far (Blk.far (Blk.far (Blk.far (Blk.far (Blk.far (Blk.far (KB5) nKN 0 (.int .i64 0)) nKN 1 (.int .i64 0)) nKN 2 (.int .i64 (pm i).op)) nKN 3 (.int .i64 0)) nKN 4 (.float .f64 0)) nKN 5 (.string {data:= #[]})) nKN 6 (.slice none 0 0)) nKN 7 (.slice oa (pm i).nk oc)
   have tN:=Blk.set (Blk.set (Blk.set (Blk.set (Blk.set (Blk.set (Blk.set (Blk.set (NB5) 0 (.int .i64 0)) 1 (.int .i64 0)) 2 (.int .i64 (pm i).op)) 3 (.int .i64 0)) 4 (.float .f64 0)) 5 (.string {data:= #[]})) 6 (.slice none 0 0)) 7 (.slice oa (pm i).nk oc)
   simp only[List.setIfInBounds_toArray,List.set_cons_zero,List.set_cons_succ] at tN
   have TN:Hid _:=tN
   have A5:Hid _:=a5
   have L5:Hid _:=l5
   have M5:Hid _:=m5
   have Q5:Hid _:=q5
   have E5:Hid _:=e5
   have ON:Hid _:=oN
   clear h5 f5 a5 l5 m5 q5 e5 z5 t5 PB5 KB5 tN oN NB5
   go_wp2_with fail
   go_meet
   case rel=>exact ⟨wK.heap.size,oa,oc,own5,V5,R5,s5,rfl,by omega,tW.out,tF.out,A5.out,L5.out,M5.out,Q5.out,E5.out,TN.out,ON.out,tP.out,tK.out⟩
 case rest=>
  obtain ⟨nb,oa,oc,own',V',R',s',rfl,hnb,h6,f6,a6,l6,m6,q6,e6,n6,o6,p6,k6⟩:=hcut
  have H6:Hid _:=h6
  have F6:Hid _:=f6
  have A6:Hid _:=a6
  have L6:Hid ((R' 2).length=l+1):=l6.trans HL.out
  have M6:Hid _:=m6
  have E6:Hid _:=e6
  have REL:Hid (Rel (pdOf pm) FX l (lp l) (rs l) i s s'):=relC.plain HPL.out q6
  have O6:Hid _:=o6
  have N6:Hid _:=n6
  have P6:Hid _:=p6
  have K6:Hid _:=k6
  clear h6 f6 a6 l6 m6 q6 e6 n6 o6 p6 k6 p4 p9 zP zK seq
  go_wp2_with fail
  go_loopw [10] (fun x wr=>∃(u:Nat) (kv:Int),u<=14/\u%2=0/\x= .int .i64 u/\Ws w0 wr wp tv own' V' R' (B+4000*psum sz (pm i).kd (pm i).nk) lp rs/\Fr own own' w wr/\Blk wr nb 97 #[.int .i64 kv,.int .i64 0,.int .i64 (pm i).op,.int .i64 0,.float .f64 0,.string {data:= #[]},.slice none 0 0,.slice oa (pm i).nk oc]/\Blk wr w.heap.size 67 #[.int .i64 (pm i).kind,.int .i64 (pm i).frm,.int .i64 (pm i).tto,.int .i64 (pm i).line,.int .i64 (pm i).op,.int .i64 (pm i).num,.float .f64 (pm i).flt,.string (pm i).text,.slice (pm i).na (pm i).nn (pm i).nc,.slice (pm i).ka (pm i).nk (pm i).kc]/\Blk wr (w.heap.size+1) 3 #[.int .i64 28,.int .i64 29,.int .i64 29,.int .i64 30,.int .i64 30,.int .i64 31,.int .i64 31,.int .i64 32,.int .i64 32,.int .i64 33,.int .i64 34,.int .i64 34,.int .i64 37,.int .i64 38]) (fun x _=>14-(intOf x).toNat)
  case atStart=>exact ⟨0,0,Nat.zero_le _,rfl,rfl,H6.out,F6.out,N6.out,P6.out,K6.out⟩
  case round=>
   obtain ⟨u,kv,hu,he,rfl,g1,g2,g3,g4,g5⟩:=hrel
   have G1:Hid _:=g1
   have G2:Hid _:=g2
   have G3:Hid _:=g3
   have G4:Hid _:=g4
   have G5:Hid _:=g5
   have HEV:Hid _:=he
   clear g1 g2 g3 g4 g5 he
   by_cases hlt:u < 14
   ·obtain ⟨a,b,ca,cb⟩:∃a b:Int,wr.cell? ⟨w.heap.size+1,u,none⟩=some (.int .i64 a)/\wr.cell? ⟨w.heap.size+1,u+1,none⟩=some (.int .i64 b):=by
     have cs:u=0\/u=2\/u=4\/u=6\/u=8\/u=10\/u=12:=by have:=HEV.out;omega
     rw[Blk.cell G5.out,Blk.cell G5.out]
     rcases cs with rfl|rfl|rfl|rfl|rfl|rfl|rfl <;> exact ⟨_,_,rfl,rfl⟩
    have zK:=clt ca
    have p0:=Blk.at_ G4.out 0 rfl
    have zP:=clt p0
    have n0:=Blk.at_ G3.out 0 rfl
    have nf:=Blk.free G3.out
    have zN:=clt n0
    have u0:(0:Int)<=(u:Int):=Zo
    have u1:(u:Int) < 14:=Zo
    have u2:(u:Int)+1 < 14:=by have:=HEV.out;omega
    cases hab:(a==(pm i).kind)
    ·go_wp2_with fail
     go_quiet (fail)
     go_wp2_with fail
     go_roundw
     case rel=>exact ⟨u+2,kv,by have:=HEV.out;omega,by have:=HEV.out;omega,by go_num,G1.out.onw (below_drewN (Onw.refl _) _),G2.out.trans (Fr.onw (below_drewN (Onw.refl _) _)),G3.out,G4.out,G5.out⟩
     case measure=>simp[intOf];omega
    ·go_wp2_with fail
     go_quiet (fail)
     go_wp2_with fail
     go_roundw
     case rel=>
      have tN:=Blk.set (Blk.onw (below_drewN (Onw.refl _) nq) G3.out) 0 (.int .i64 b)
      simp only[List.setIfInBounds_toArray,List.set_cons_zero] at tN
      exact ⟨u+2,b,by have:=HEV.out;omega,by have:=HEV.out;omega,by go_num,Ws.store (G1.out.onw (below_drewN (Onw.refl _) nq)) O6.out (by have:=HH.out.wk.ov.size;omega) 0 (.int .i64 b),Fr.store (G2.out.trans (Fr.onw (below_drewN (Onw.refl _) nq))) Zo 0 (.int .i64 b),tN,Blk.far (Blk.onw (below_drewN (Onw.refl _) nq) G4.out) Zo 0 (.int .i64 b),Blk.far (Blk.onw (below_drewN (Onw.refl _) nq) G5.out) Zo 0 (.int .i64 b)⟩
     case measure=>simp[intOf];omega
   ·obtain rfl:u=14:=Zo
    have n0:=Blk.at_ G3.out 0 rfl
    have n1:=Blk.at_ G3.out 1 rfl
    have n2:=Blk.at_ G3.out 2 rfl
    have n3:=Blk.at_ G3.out 3 rfl
    have n4:=Blk.at_ G3.out 4 rfl
    have n5:=Blk.at_ G3.out 5 rfl
    have n6:=Blk.at_ G3.out 6 rfl
    have n7:=Blk.at_ G3.out 7 rfl
    have zN:=clt n0
    go_wp2_with fail
    refine (add_ws G1.out Zo L6.out ⟨⟨kv,0,(pm i).op,0,0,{data:= #[]},0,fun _=>0,(pm i).nk,fun _=>0⟩,none,0,oa,oc⟩).mono ?_
    rintro e w9 ⟨r,hr,rfl,hp⟩
    have P:Hid (PostS w0 wp tv own w R (B+4000*sz i) lp rs w9 (fun s'=>Rel (pdOf pm) FX l (lp l) (rs l) i s s'/\s'.sc=s.sc)):=(PostS.then_ G2.out (L6.out.trans HL.out.symm) M6.out (hp.toS (P:=fun s'=>Rel (pdOf pm) FX l (lp l) (rs l) i s s'/\s'.sc=s.sc) A6.out rfl ⟨REL.out,E6.out⟩)).more Zo
    clear hp
    exact J71
end Go.Proofs.YtlibofjbhhdjdaaGreat
