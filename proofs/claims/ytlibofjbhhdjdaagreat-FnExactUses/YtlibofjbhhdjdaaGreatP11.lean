import Derived.Test.YtlibofjbhhdjdaaGreatQ
import Derived.Test.YtlibofjbhhdjdaaGreatP10
set_option linter.unusedSimpArgs false
set_option maxRecDepth 100000
set_option maxHeartbeats 16000000
namespace Go.Proofs.YtlibofjbhhdjdaaGreat
open Go.RowKit
attribute [local go_sem] rsf
variable {P:Array Value} {op:Int} {B B' g kc' kn l wp:Nat} {rs:Nat->Bool} {lp:Nat->Int} {R R1:Nat->List (List Value)} {own own1:Nat->Nat} {V1:Nat->Value} {ka':Option Addr} {s s1:St} {tv:Value} {w w0 wd wr:World}
def TableOk (w0:World) (wp:Nat) (tv:Value) (pm:Nat->PM) (FX:List SNm->Nat->CV->Prop) (sz:Nat->Nat) (i:Nat):Prop:=
 ∀(w:World) (own:Nat->Nat) (V:Nat->Value) (R:Nat->List (List Value)) (B:Nat) (lp:Nat->Int) (rs:Nat->Bool) (l:Nat) (s:St),Ws w0 w wp tv own V R B lp rs->(R 2).length=l+1->s.At R->SFn s l->B+4000*sz i<=16000000->l+i<=3000->(0<=lp l/\lp l+(i:Int)<=3000)->
  Calls Tryz.prog 86 #[.pointer (some ⟨wp,0,none⟩),.agg #[.int .i64 (pm i).kind,.int .i64 (pm i).frm,.int .i64 (pm i).tto,.int .i64 (pm i).line,.int .i64 (pm i).op,.int .i64 (pm i).num,.float .f64 (pm i).flt,.string (pm i).text,.slice (pm i).na (pm i).nn (pm i).nc,.slice (pm i).ka (pm i).nk (pm i).kc]] w fun e w'=>∃r:Nat,r<=16777216/\e= .returned (.int .i64 r)/\PostS w0 wp tv own w R (B+4000*sz i) lp rs w' (fun s'=>SeqR (pdOf pm) FX l (lp l) (rs l) (pm i).kd (pm i).nk s s'/\s'.sc=s.sc)
structure Tab (w0 w:World) (wp:Nat) (tv:Value) (own:Nat->Nat) (R:Nat->List (List Value)) (B:Nat) (lp:Nat->Int) (rs:Nat->Bool) (l:Nat) (s:St) (P:Array Value) (wr:World) (own1:Nat->Nat) (V1:Nat->Value) (R1:Nat->List (List Value)) (s1:St) (op:Int) (ka':Option Addr) (kn kc':Nat):Prop where
 ws:Ws w0 wr wp tv own1 V1 R1 B lp rs
 fr:Fr own own1 w wr
 at_:s1.At R1
 len:(R1 2).length=l+1
 lenR:(R 2).length=l+1
 mono:Mono R R1
 sc:s1.sc=s.sc
 p:Blk wr w.heap.size 67 P
 op_:own1 w.heap.size=0
 n:Blk wr (w.heap.size+1) 97 #[.int .i64 35,.int .i64 0,.int .i64 op,.int .i64 0,.float .f64 0,.string {data:= #[]},.slice none 0 0,.slice ka' kn kc']
 on_:own1 (w.heap.size+1)=0
 kids:LRow wr (w.heap.size+2) own1 ka' kn kc'
theorem Tab.onw (h:Tab w0 w wp tv own R B lp rs l s P wr own1 V1 R1 s1 op ka' kn kc')(o:Onw wr wd):Tab w0 w wp tv own R B lp rs l s P wd own1 V1 R1 s1 op ka' kn kc':=
 ⟨h.ws.onw o,h.fr.trans (Fr.onw o),h.at_,h.len,h.lenR,h.mono,h.sc,h.p.onw o,h.op_,h.n.onw o,h.on_,h.kids.fr (Fr.onw o)⟩
theorem Tab.more (h:Tab w0 w wp tv own R B lp rs l s P wr own1 V1 R1 s1 op ka' kn kc')(hB:B<=B'):Tab w0 w wp tv own R B' lp rs l s P wr own1 V1 R1 s1 op ka' kn kc':=
 ⟨h.ws.more hB,h.fr,h.at_,h.len,h.lenR,h.mono,h.sc,h.p,h.op_,h.n,h.on_,h.kids⟩
theorem Tab.post (h:Tab w0 w wp tv own R B lp rs l s P wr own1 V1 R1 s1 op ka' kn kc'){Q:St->Prop}(hp:PostS w0 wp tv own1 wr R1 B' lp rs wd (fun s'=>Q s'/\s'.sc=s1.sc)):∃own2 V2 R2 s2,Tab w0 w wp tv own R B' lp rs l s P wd own2 V2 R2 s2 op ka' kn kc'/\Fr own1 own2 wr wd/\Q s2:=by
 obtain ⟨own2,V2,R2,s2,a,b,c,d,e,f,g⟩:=hp
 exact ⟨own2,V2,R2,s2,⟨a,h.fr.trans b,c,d.trans h.len,h.lenR,Mono.trans h.mono (h.len.trans h.lenR.symm) e,g.trans h.sc,(b.kept _ ⟨h.p.lt,h.op_⟩).trans h.p,by rw[b.tags _ h.p.lt];exact h.op_,(b.kept _ ⟨h.n.lt,h.on_⟩).trans h.n,by rw[b.tags _ h.n.lt];exact h.on_,h.kids.fr b⟩,b,f⟩
theorem RowAt.app2 {w w1 w2:World}{base:Nat}{e:TypeId}{v:Value}{els:List (List Value)}{x y:Value}{g cap n:Nat}(h:RowAt w base own 0 e 1 v els)(hn:els.length=n)(high:∀k,w.heap.size<=k->own k=0)(hw1:Onw w w1)(hown:w2.ownsRow base e 1 (.slice (some ⟨g,0,none⟩) (n+2:Nat) cap) (n+2) (els.flatten++ [x,y]))(hwh:v.ownBlock=some g\/w1.heap.size<=g):RowAt w2 base own 0 e 1 (.slice (some ⟨g,0,none⟩) (n+2:Nat) cap) (els++ [[x], [y]]):=by
 refine ⟨?_,fun z hz=>?_,fun z hz=>?_⟩
 ·exact J212
 ·rcases List.mem_append.1 hz with hz|hz
  ·exact h.len z hz
  ·simp only[List.mem_cons,List.mem_nil_iff,or_false] at hz
   rcases hz with rfl|rfl <;> rfl
 ·obtain rfl:g=z:=by simpa[Value.ownBlock] using hz
  exact J189
theorem Tab.two (h:Tab w0 w wp tv own R B lp rs l s P wr own1 V1 R1 s1 op ka' kn kc')(z:w0.heap.size<=w.heap.size){ol:List (List Value)}(r1:RowAt wr (w.heap.size+2) own1 0 3 1 (.slice ka' kn kc') ol)(r2:ol.length=kn)(r3:∀y∈ol,∃q:Int,y= [.int .i64 q]){x y:Int}{g cap:Nat}{w1 w2:World}(hw1:Onw wr w1)(hown:w2.ownsRow (w.heap.size+2) 3 1 (.slice (some ⟨g,0,none⟩) (kn+2:Nat) cap) (kn+2) (ol.flatten++ [.int .i64 x,.int .i64 y]))(hgrow:w1.grownBy w2 (Value.slice ka' kn kc').ownBlock)(hwh:(Value.slice ka' kn kc').ownBlock=some g\/w1.heap.size<=g):
  Blk w2 (w.heap.size+1) 97 #[.int .i64 35,.int .i64 0,.int .i64 op,.int .i64 0,.float .f64 0,.string {data:= #[]},.slice none 0 0,.slice ka' kn kc']/\Tab w0 w wp tv own R B lp rs l s P (w2.setCell ⟨w.heap.size+1,7,none⟩ (.slice (some ⟨g,0,none⟩) (kn+2:Nat) cap)) own1 V1 R1 s1 op (some ⟨g,0,none⟩) (kn+2) cap:=by
 have hrow:∀x,(Value.slice ka' kn kc').ownBlock=some x->own1 x=0/\w.heap.size+2<=x:=fun x hx=>⟨r1.mine x hx,(r1.row.lt x hx).1⟩
 have hs1:=hw1.size
 have hgs:=hgrow.size
 have K:∀k,k < wr.heap.size->k < w.heap.size+2->w2.heap[k]?= wr.heap[k]?:= fun k hk hk2=>(hgrow.block k Zo (fun e=>by have:=(hrow k e.symm).2;omega)).trans (hw1.block k hk)
 have n2:Blk w2 (w.heap.size+1) 97 #[.int .i64 35,.int .i64 0,.int .i64 op,.int .i64 0,.float .f64 0,.string {data:= #[]},.slice none 0 0,.slice ka' kn kc']:=(K _ h.n.lt Zo).trans h.n
 have p2:Blk w2 w.heap.size 67 P:=(K _ h.p.lt Zo).trans h.p
 have tN:=n2.set 7 (.slice (some ⟨g,0,none⟩) (kn+2:Nat) cap)
 simp only[List.setIfInBounds_toArray,List.set_cons_zero,List.set_cons_succ] at tN
 have ws2:=h.ws.loc hw1 hgrow (fun x hx=>⟨(hrow x hx).1,by have:=(hrow x hx).2;omega⟩)
 have fr2:Fr own own1 w w2:=⟨by have:=h.fr.size;omega,h.fr.tags,fun k hk=>(K k (by have:=h.fr.size;omega) Zo).trans (h.fr.kept k hk)⟩
 have rn:=r1.app2 r2 h.ws.wk.high hw1 hown hwh
 refine ⟨n2,ws2.store h.on_ Zo 7 _,fr2.store Zo 7 _,h.at_,h.len,h.lenR,h.mono,h.sc,p2.far Zo 7 _,h.op_,tN,h.on_,ol++ [[.int .i64 x], [.int .i64 y]],?_,by rw[List.length_append,r2];rfl,fun q hq=>?_⟩
 ·exact rn.kept (p:=fun k=>w.heap.size+2<=k) (fun k hk=>ksc w2 (w.heap.size+1) 7 _ k Zo) (fun g hg=>(rn.row.lt g hg).1) (fun _ _=>rfl)
 ·rcases List.mem_append.1 hq with hq|hq
  ·exact r3 q hq
  ·simp only[List.mem_cons,List.mem_nil_iff,or_false] at hq
   rcases hq with rfl|rfl
   ·exact ⟨_,rfl⟩
   ·exact ⟨_,rfl⟩
theorem Tab.one (h:Tab w0 w wp tv own R B lp rs l s P wr own1 V1 R1 s1 op ka' kn kc')(z:w0.heap.size<=w.heap.size):Tab w0 w wp tv own R B lp rs l s P (wr.setCell ⟨w.heap.size+1,2,none⟩ (.int .i64 1)) own1 V1 R1 s1 1 ka' kn kc':=by
 have tN:=h.n.set 2 (.int .i64 1)
 simp only[List.setIfInBounds_toArray,List.set_cons_zero,List.set_cons_succ] at tN
 refine ⟨h.ws.store h.on_ Zo 2 _,h.fr.store Zo 2 _,h.at_,h.len,h.lenR,h.mono,h.sc,h.p.far Zo 2 _,h.op_,tN,h.on_,?_⟩
 obtain ⟨ol,r1,r2,r3⟩:=h.kids
 exact ⟨ol,r1.kept (p:=fun k=>w.heap.size+2<=k) (fun k hk=>ksc wr (w.heap.size+1) 2 _ k Zo) (fun g hg=>(r1.row.lt g hg).1) (fun _ _=>rfl),r2,r3⟩
theorem table_ws {FX:List SNm->Nat->CV->Prop}{sz:Nat->Nat}{np:Nat}{pm:Nat->PM}(tr:Tr w0 tv np pm sz){i:Nat}(hi:i < np)(hent:∀j,j < (pm i).nk->((pm ((pm i).kd j).toNat).kind=40/\(pm ((pm i).kd j).toNat).nk=1)\/((pm ((pm i).kd j).toNat).kind=41/\(pm ((pm i).kd j).toNat).nk=2)\/((pm ((pm i).kd j).toNat).kind=42/\(pm ((pm i).kd j).toNat).nk=1))(hex:∀j,j < (pm i).nk->∀a,a < (pm ((pm i).kd j).toNat).nk->ExprOk w0 wp tv (pdOf pm) FX sz ((pm ((pm i).kd j).toNat).kd a).toNat):TableOk w0 wp tv pm FX sz i:=by
 intro w own V R B lp rs l s h hl hs hf hB hll hlp
 obtain ⟨pa,pc,htv,ha⟩:=tr.at_
 obtain ⟨pb,po,hpa,hpc⟩:=ha.1 Zo
 obtain ⟨ka,hka⟩:∃k,(pm i).ka=k:=⟨_,rfl⟩
 have hkd:IntsAt w0 ka (pm i).nk (pm i).kd:=by rw[<-hka];exact (ha.2 i hi).2
 rw[hka]
 have HKD:Hid _:=hkd
 have szi:=tr.szs i hi
 have nk2:=tr.nkl i hi
 have HH:Hid _:=h
 have HL:Hid _:=hl
 have HS:Hid _:=hs
 have HF:Hid _:=hf
 have HE:Hid _:=hex
 have HT:Hid _:=tr
 have HA:Hid _:=ha
 have HTV:Hid _:=htv
 have HN:Hid _:=hent
 have HPC:Hid _:=hpc
 clear h hl hs hf hex tr ha htv hent hpc hkd hka
 have z0:w0.heap.size<=w.heap.size:=HH.out.wk.ov.size
 have PB:=(Blk.new w 67 #[.int .i64 (pm i).kind,.int .i64 (pm i).frm,.int .i64 (pm i).tto,.int .i64 (pm i).line,.int .i64 (pm i).op,.int .i64 (pm i).num,.float .f64 (pm i).flt,.string (pm i).text,.slice (pm i).na (pm i).nn (pm i).nc,.slice ka (pm i).nk (pm i).kc]).onw (Onw.alloc _ (Obj.cells #[.int .i64 35,.int .i64 0,.int .i64 0,.int .i64 0,.float .f64 0,.string {data:= #[]},.slice none 0 0,.slice none 0 0] 97))
 have NB:=Blk.new (w.alloc (Obj.cells #[.int .i64 (pm i).kind,.int .i64 (pm i).frm,.int .i64 (pm i).tto,.int .i64 (pm i).line,.int .i64 (pm i).op,.int .i64 (pm i).num,.float .f64 (pm i).flt,.string (pm i).text,.slice (pm i).na (pm i).nn (pm i).nc,.slice ka (pm i).nk (pm i).kc] 67)) 97 #[.int .i64 35,.int .i64 0,.int .i64 0,.int .i64 0,.float .f64 0,.string {data:= #[]},.slice none 0 0,.slice none 0 0]
 rw[World.size_alloc] at NB
 have OA:=(Onw.alloc w (Obj.cells #[.int .i64 (pm i).kind,.int .i64 (pm i).frm,.int .i64 (pm i).tto,.int .i64 (pm i).line,.int .i64 (pm i).op,.int .i64 (pm i).num,.float .f64 (pm i).flt,.string (pm i).text,.slice (pm i).na (pm i).nn (pm i).nc,.slice ka (pm i).nk (pm i).kc] 67)).trans (Onw.alloc _ (Obj.cells #[.int .i64 35,.int .i64 0,.int .i64 0,.int .i64 0,.float .f64 0,.string {data:= #[]},.slice none 0 0,.slice none 0 0] 97))
 have T0:Hid (Tab w0 w wp tv own R B lp rs l s #[.int .i64 (pm i).kind,.int .i64 (pm i).frm,.int .i64 (pm i).tto,.int .i64 (pm i).line,.int .i64 (pm i).op,.int .i64 (pm i).num,.float .f64 (pm i).flt,.string (pm i).text,.slice (pm i).na (pm i).nn (pm i).nc,.slice ka (pm i).nk (pm i).kc] _ own V R s 0 none 0 0):=⟨HH.out.onw OA,Fr.onw OA,HS.out,HL.out,HL.out,Mono.refl _,rfl,PB,HH.out.wk.high _ (Nat.le_refl _),NB,HH.out.wk.high _ Zo,LRow.nil _ _ _⟩
 clear PB NB OA
 go_enter Tryz.func86,Tryz.ntmps86
 go_wp2_with fail
 generalize (w.alloc (Obj.cells #[.int .i64 (pm i).kind,.int .i64 (pm i).frm,.int .i64 (pm i).tto,.int .i64 (pm i).line,.int .i64 (pm i).op,.int .i64 (pm i).num,.float .f64 (pm i).flt,.string (pm i).text,.slice (pm i).na (pm i).nn (pm i).nc,.slice ka (pm i).nk (pm i).kc] 67)).alloc (Obj.cells #[.int .i64 35,.int .i64 0,.int .i64 0,.int .i64 0,.float .f64 0,.string {data:= #[]},.slice none 0 0,.slice none 0 0] 97)=wA at*
 go_loopw [6,18] (fun cv x wr=>∃(j:Nat) (cnt:Int) (own1:Nat->Nat) (V1:Nat->Value) (R1:Nat->List (List Value)) (s1:St) (op:Int) (ka':Option Addr) (kn kc':Nat),j<=(pm i).nk/\x= .int .i64 j/\cv= .int .i64 cnt/\0<=cnt/\cnt<=j/\kn=2*j/\Tab w0 w wp tv own R (B+4000*psum sz (pm i).kd j) lp rs l s #[.int .i64 (pm i).kind,.int .i64 (pm i).frm,.int .i64 (pm i).tto,.int .i64 (pm i).line,.int .i64 (pm i).op,.int .i64 (pm i).num,.float .f64 (pm i).flt,.string (pm i).text,.slice (pm i).na (pm i).nn (pm i).nc,.slice ka (pm i).nk (pm i).kc] wr own1 V1 R1 s1 op ka' kn kc'/\SeqR (pdOf pm) FX l (lp l) (rs l) (pm i).kd j s s1) (fun _ x _=>(pm i).nk-(intOf x).toNat)
 case atStart=>exact ⟨0,0,own,V,R,s,0,none,0,0,Nat.zero_le _,rfl,rfl,Int.le_refl _,Int.le_refl _,rfl,T0.out,relC.snil⟩
 case round=>
  obtain ⟨j,cnt,own1,V1,R1,s1,op,ka',kn,kc',hj,rfl,rfl,hc0,hc1,hkn,t1,sq1⟩:=hrel
  have T1:Hid _:=t1
  have SQ1:Hid _:=sq1
  have HKN:Hid (kn=2*j):=hkn
  clear t1 sq1 T0 hkn
  by_cases hlt:j < (pm i).nk
  ·obtain ⟨nb,no,hna,hcc⟩:=HKD.out Zo
   obtain ⟨q,hq⟩:∃q:Nat,(pm i).kd j=q:=⟨((pm i).kd j).toNat,by have:=(HT.out.kid i hi j hlt).1;omega⟩
   have hqi:q < i:=J313
   have hent:=HN.out j hlt
   have qn:Hid (((pm i).kd j).toNat=q):=by show _=_;rw[hq];rfl
   rw[qn.out] at hent
   have x0:=con T1.out.ws.wk.ov (hcc j hlt)
   rw[hq] at x0
   have zx:=clt x0
   subst hna
   have HQ:Hid _:=hq
   clear hcc hq
   have j0:(0:Int)<=(j:Int):=Zo
   have j1:(j:Int) < ((pm i).nk:Int):=Zo
   have q0:(0:Int)<=(q:Int):=Zo
   have q1:(q:Int) < (np:Int):=Zo
   have hps:Hid (psum sz (pm i).kd (j+1)=psum sz (pm i).kd j+sz q):=by show _=_;rw[psum,qn.out]
   have hle:Hid (psum sz (pm i).kd (j+1)<=psum sz (pm i).kd (pm i).nk):=psum_le Zo
   have hbnd:B+4000*psum sz (pm i).kd j+4000*sz q<=16000000:=J306
   have szq:=HT.out.szs q Zo
   obtain ⟨eb,eo,heb,hec⟩:=(HA.out.2 q Zo).2 (by rcases hent with ⟨_,e⟩|⟨_,e⟩|⟨_,e⟩ <;> omega)
   obtain ⟨c0,c1,c2,c3,c4,c5,c6,c7,c8,c9⟩:=(HPC.out q Zo).onw T1.out.ws.wk.ov
   obtain ⟨nq,hnq⟩:∃nq,(pm q).nk=nq+1:=⟨(pm q).nk-1,by rcases hent with ⟨_,e⟩|⟨_,e⟩|⟨_,e⟩ <;> omega⟩
   rw[heb,hnq] at c9
   have HNQ:Hid _:=hnq
   have hqk:Hid (∀a,a < nq+1->0<=(pm q).kd a/\(pm q).kd a < q):=fun a ha=>HT.out.kid q Zo a Zo
   rw[hnq] at hec szq
   have EB:=Blk.new wr 67 #[.int .i64 (pm q).kind,.int .i64 (pm q).frm,.int .i64 (pm q).tto,.int .i64 (pm q).line,.int .i64 (pm q).op,.int .i64 (pm q).num,.float .f64 (pm q).flt,.string (pm q).text,.slice (pm q).na (pm q).nn (pm q).nc,.slice (some ⟨eb,eo,none⟩) (nq+1:Nat) (pm q).kc]
   have oE:own1 wr.heap.size=0:=T1.out.ws.wk.high _ (Nat.le_refl _)
   have T2:Hid _:=T1.out.onw (Onw.alloc wr (Obj.cells #[.int .i64 (pm q).kind,.int .i64 (pm q).frm,.int .i64 (pm q).tto,.int .i64 (pm q).line,.int .i64 (pm q).op,.int .i64 (pm q).num,.float .f64 (pm q).flt,.string (pm q).text,.slice (pm q).na (pm q).nn (pm q).nc,.slice (some ⟨eb,eo,none⟩) (nq+1:Nat) (pm q).kc] 67))
   have zc:=clt c0
   have b0:wr.cell? ⟨wp,0,none⟩=some (.slice (some ⟨pb,po,none⟩) np pc):=by rw[T1.out.ws.blk.cell,<-hpa,<-HTV.out];rfl
   have zb:=T1.out.ws.blk.lt
   obtain ⟨wo,hwo⟩:∃y,y=wr:=⟨_,rfl⟩
   subst hwo
   have HEC:Hid _:=hec
   have HENT:Hid _:=hent
   clear hec hent heb hnq
   go_upto_if 33 with (fail)
   have HEB:Hid _:=EB
   have OE:Hid _:=oE
   have nqs:Hid (nq<=1):=by
    show _<=_
    have:=HNQ.out
    rcases HENT.out with ⟨_,e⟩|⟨_,e⟩|⟨_,e⟩ <;> omega
   have PSQ:Hid (psum sz (pm q).kd (nq+1)=psum sz (pm q).kd nq+sz ((pm q).kd nq).toNat):=rfl
   have e0:(wo.alloc (Obj.cells #[.int .i64 (pm q).kind,.int .i64 (pm q).frm,.int .i64 (pm q).tto,.int .i64 (pm q).line,.int .i64 (pm q).op,.int .i64 (pm q).num,.float .f64 (pm q).flt,.string (pm q).text,.slice (pm q).na (pm q).nn (pm q).nc,.slice (some ⟨eb,eo,none⟩) (nq+1:Nat) (pm q).kc] 67)).cell? ⟨wo.heap.size,0,none⟩=some (.int .i64 (pm q).kind):=(Blk.cell EB 0).trans rfl
   have e7:(wo.alloc (Obj.cells #[.int .i64 (pm q).kind,.int .i64 (pm q).frm,.int .i64 (pm q).tto,.int .i64 (pm q).line,.int .i64 (pm q).op,.int .i64 (pm q).num,.float .f64 (pm q).flt,.string (pm q).text,.slice (pm q).na (pm q).nn (pm q).nc,.slice (some ⟨eb,eo,none⟩) (nq+1:Nat) (pm q).kc] 67)).cell? ⟨wo.heap.size,7,none⟩=some (.string (pm q).text):=(Blk.cell EB 7).trans rfl
   have e9:(wo.alloc (Obj.cells #[.int .i64 (pm q).kind,.int .i64 (pm q).frm,.int .i64 (pm q).tto,.int .i64 (pm q).line,.int .i64 (pm q).op,.int .i64 (pm q).num,.float .f64 (pm q).flt,.string (pm q).text,.slice (pm q).na (pm q).nn (pm q).nc,.slice (some ⟨eb,eo,none⟩) (nq+1:Nat) (pm q).kc] 67)).cell? ⟨wo.heap.size,9,none⟩=some (.slice (some ⟨eb,eo,none⟩) (nq+1:Nat) (pm q).kc):=(Blk.cell EB 9).trans rfl
   have zE:=Blk.lt EB
   clear EB oE c0 c1 c2 c3 c4 c5 c6 c7 c8 c9 zc b0 zb x0 zx
   generalize wo.alloc (Obj.cells #[.int .i64 (pm q).kind,.int .i64 (pm q).frm,.int .i64 (pm q).tto,.int .i64 (pm q).line,.int .i64 (pm q).op,.int .i64 (pm q).num,.float .f64 (pm q).flt,.string (pm q).text,.slice (pm q).na (pm q).nn (pm q).nc,.slice (some ⟨eb,eo,none⟩) (nq+1:Nat) (pm q).kc] 67)=wB at*
   have fin:Hid (∀{B':Nat} {wd:World} {Q:St->Prop},PostS w0 wp tv own1 wB R1 B' lp rs wd (fun s'=>Q s'/\s'.sc=s1.sc)->∃own2 V2 R2 s2,Tab w0 w wp tv own R B' lp rs l s #[.int .i64 (pm i).kind,.int .i64 (pm i).frm,.int .i64 (pm i).tto,.int .i64 (pm i).line,.int .i64 (pm i).op,.int .i64 (pm i).num,.float .f64 (pm i).flt,.string (pm i).text,.slice (pm i).na (pm i).nn (pm i).nc,.slice (some ⟨nb,no,none⟩) (pm i).nk (pm i).kc] wd own2 V2 R2 s2 op ka' kn kc'/\Q s2/\Blk wd wo.heap.size 67 #[.int .i64 (pm q).kind,.int .i64 (pm q).frm,.int .i64 (pm q).tto,.int .i64 (pm q).line,.int .i64 (pm q).op,.int .i64 (pm q).num,.float .f64 (pm q).flt,.string (pm q).text,.slice (pm q).na (pm q).nn (pm q).nc,.slice (some ⟨eb,eo,none⟩) (nq+1:Nat) (pm q).kc]/\own2 wo.heap.size=0):=fun hp=>by
    obtain ⟨a1,a2,a3,a4,a5,a6,a7⟩:=T2.out.post hp
    exact ⟨a1,a2,a3,a4,a5,a7,(a6.kept _ ⟨Blk.lt HEB.out,OE.out⟩).trans HEB.out,by rw[a6.tags _ (Blk.lt HEB.out)];exact OE.out⟩
   go_cut [6,10] (fun cv xv wd=>∃(cnt':Int) (xr:Nat) (own2:Nat->Nat) (V2:Nat->Value) (R2:Nat->List (List Value)) (s2:St),cv= .int .i64 cnt'/\0<=cnt'/\cnt'<=j+1/\xv= .int .i64 xr/\Tab w0 w wp tv own R (B+4000*psum sz (pm i).kd j+4000*psum sz (pm q).kd nq+1) lp rs l s #[.int .i64 (pm i).kind,.int .i64 (pm i).frm,.int .i64 (pm i).tto,.int .i64 (pm i).line,.int .i64 (pm i).op,.int .i64 (pm i).num,.float .f64 (pm i).flt,.string (pm i).text,.slice (pm i).na (pm i).nn (pm i).nc,.slice (some ⟨nb,no,none⟩) (pm i).nk (pm i).kc] wd own2 V2 R2 s2 op ka' kn kc'/\SeqR (pdOf pm) FX l (lp l) (rs l) (pm q).kd nq s1 s2/\Blk wd wo.heap.size 67 #[.int .i64 (pm q).kind,.int .i64 (pm q).frm,.int .i64 (pm q).tto,.int .i64 (pm q).line,.int .i64 (pm q).op,.int .i64 (pm q).num,.float .f64 (pm q).flt,.string (pm q).text,.slice (pm q).na (pm q).nn (pm q).nc,.slice (some ⟨eb,eo,none⟩) (nq+1:Nat) (pm q).kc]/\own2 wo.heap.size=0)
   case first=>
    rcases HENT.out with ⟨hk,hn⟩|⟨hk,hn⟩|⟨hk,hn⟩
    ·have k41:((pm q).kind==41)=false:=Zk
     have k42:((pm q).kind==42)=false:=Zk
     have NQ:Hid (nq=0):=J321
     clear hk hn
     go_wp2_with fail
     refine (add_ws T2.out.ws Zo T2.out.len (ndM 23 (cnt+1) 0 {data:= #[]})).mono ?_
     rintro e w9 ⟨r,hr,rfl,hp⟩
     obtain ⟨own2,V2,R2,s2,f1,f2,f3,f4⟩:=fin.out (hp.toS (P:=fun s'=>s'=s1/\s'.sc=s1.sc) T2.out.at_ rfl ⟨rfl,rfl⟩)
     have F1:Hid _:=f1
     have F2:Hid _:=f2
     have F3:Hid _:=f3
     have F4:Hid _:=f4
     clear hp f1 f2 f3 f4
     go_wp2_with fail
     go_meet
     case rel=>exact ⟨cnt+1,r,own2,V2,R2,s2,rfl,by omega,by omega,rfl,F1.out.more Zo,by rw[F2.out,NQ.out];exact relC.snil,F3.out,F4.out⟩
    ·have k41:((pm q).kind==41)=true:=Zk
     have NQ:Hid (nq=1):=J321
     obtain ⟨a0,ha0⟩:∃a0:Nat,(pm q).kd 0=a0:=⟨((pm q).kd 0).toNat,by have:=(hqk.out 0 Zo).1;omega⟩
     have ha1:a0 < q:=by have:=(hqk.out 0 Zo).2;omega
     have y0:=con T2.out.ws.wk.ov (HEC.out 0 Zo)
     rw[ha0,Nat.add_zero] at y0
     have zy:=clt y0
     have n0:(0:Int) < ((nq+1:Nat):Int):=Zo
     have A0:Hid _:=ha0
     have HE0:Hid (ExprOk w0 wp tv (pdOf pm) FX sz a0):=by
      have e:=HE.out j hlt 0 (by rw[qn.out];have:=HNQ.out;omega)
      rw[qn.out,ha0] at e
      exact e
     have ps1:Hid (psum sz (pm q).kd nq=sz a0):=by show _=_;rw[NQ.out];show 0+sz ((pm q).kd 0).toNat=_;rw[A0.out];simp
     clear hk hn ha0
     go_wp2_with fail
     refine (HE0.out wB own1 V1 R1 _ lp rs l s1 T2.out.ws T2.out.len T2.out.at_ (SFn.of HF.out T2.out.sc) (by have:=ps1.out;have:=PSQ.out;omega) Zo ⟨hlp.1,by have:=hlp.2;omega⟩).mono ?_
     rintro e w9 ⟨r,hr,rfl,hp⟩
     obtain ⟨own2,V2,R2,s2,f1,f2,f3,f4⟩:=fin.out hp
     have F1:Hid _:=f1
     have F2:Hid _:=f2
     have F3:Hid _:=f3
     have F4:Hid _:=f4
     clear hp f1 f2 f3 f4
     go_wp2_with fail
     go_meet
     case rel=>exact ⟨cnt,r,own2,V2,R2,s2,rfl,hc0,by omega,rfl,F1.out.more (by have:=ps1.out;omega),by rw[NQ.out];exact relC.ssnoc relC.snil (by rw[A0.out];exact F2.out),F3.out,F4.out⟩
    ·have k41:((pm q).kind==41)=false:=Zk
     have k42:((pm q).kind==42)=true:=Zk
     have NQ:Hid (nq=0):=J321
     clear hk hn
     go_wp2_with fail
     refine (add_ws T2.out.ws Zo T2.out.len (ndM 25 0 0 (pm q).text)).mono ?_
     rintro e w9 ⟨r,hr,rfl,hp⟩
     obtain ⟨own2,V2,R2,s2,f1,f2,f3,f4⟩:=fin.out (hp.toS (P:=fun s'=>s'=s1/\s'.sc=s1.sc) T2.out.at_ rfl ⟨rfl,rfl⟩)
     have F1:Hid _:=f1
     have F2:Hid _:=f2
     have F3:Hid _:=f3
     have F4:Hid _:=f4
     clear hp f1 f2 f3 f4
     go_wp2_with fail
     go_meet
     case rel=>exact ⟨cnt,r,own2,V2,R2,s2,rfl,hc0,by omega,rfl,F1.out.more Zo,by rw[F2.out,NQ.out];exact relC.snil,F3.out,F4.out⟩
   case rest=>
    obtain ⟨cnt',xr,own2,V2,R2,s2,rfl,g0,g1,rfl,t2,sq2,eb2,oe2⟩:=hcut
    have T3:Hid _:=t2
    have SQ2:Hid _:=sq2
    have EB2:Hid _:=eb2
    have OE2:Hid _:=oe2
    clear e0 e7 e9 zE fin t2 sq2 oe2
    obtain ⟨a1,ha1⟩:∃a1:Nat,(pm q).kd nq=a1:=⟨((pm q).kd nq).toNat,by have:=(hqk.out nq Zo).1;omega⟩
    have ha2:a1 < q:=by have:=(hqk.out nq Zo).2;omega
    have A1:Hid _:=ha1
    have HE1:Hid (ExprOk w0 wp tv (pdOf pm) FX sz a1):=by
     have e:=HE.out j hlt nq (by rw[qn.out];have:=HNQ.out;omega)
     rw[qn.out,ha1] at e
     exact e
    have psq:Hid (psum sz (pm q).kd (nq+1)=psum sz (pm q).kd nq+sz a1):=by show _=_;rw[PSQ.out,A1.out];rfl
    have y1:=con T3.out.ws.wk.ov (HEC.out nq Zo)
    rw[ha1] at y1
    have zy:=clt y1
    have e9:=Blk.at_ eb2 9 rfl
    have e0:=Blk.at_ eb2 0 rfl
    have zE:=Blk.lt eb2
    have p9:=Blk.at_ T3.out.p 9 rfl
    have zP:=Blk.lt T3.out.p
    have b0:wc.cell? ⟨wp,0,none⟩=some (.slice (some ⟨pb,po,none⟩) np pc):=by rw[T3.out.ws.blk.cell,<-hpa,<-HTV.out];rfl
    have zb:=T3.out.ws.blk.lt
    have c0:=con T3.out.ws.wk.ov (HPC.out a1 Zo).c0
    have zc:=clt c0
    have i0:(0:Int)<=(a1:Int):=Zo
    have i1:(a1:Int) < (np:Int):=Zo
    have nq1:nq<=1:=nqs.out
    have k0:(0:Int)<=(nq:Int):=Zo
    have k1:(nq:Int) < ((nq+1:Nat):Int):=Zo
    clear eb2 ha1
    obtain ⟨wd,hwd⟩:∃y,y=wc:=⟨_,rfl⟩
    subst hwd
    go_upto_region 16 with (fail)
    go_cut [89] (fun v we=>we=wd/\∃b:Bool,v= .bool b)
    case first=>
     cases k40:((pm q).kind==40)
     ·exact J100
     ·cases kj:((j:Int)==((pm i).nk:Int)-1)
      ·exact J100
      ·cases k34:((pm a1).kind==34)
       ·exact J100
       ·exact J100
    case rest=>
     obtain ⟨rfl,bb,rfl⟩:=hcut
     have n2:=Blk.at_ T3.out.n 2 rfl
     have nf:=Blk.free T3.out.n
     have zn:=Blk.lt T3.out.n
     clear e9 e0 zE p9 zP b0 zb c0 zc y1 zy
     go_upto_if 89 with (fail)
     go_cut [] (fun we=>∃op',Tab w0 w wp tv own R (B+4000*psum sz (pm i).kd j+4000*psum sz (pm q).kd nq+1) lp rs l s #[.int .i64 (pm i).kind,.int .i64 (pm i).frm,.int .i64 (pm i).tto,.int .i64 (pm i).line,.int .i64 (pm i).op,.int .i64 (pm i).num,.float .f64 (pm i).flt,.string (pm i).text,.slice (pm i).na (pm i).nn (pm i).nc,.slice (some ⟨nb,no,none⟩) (pm i).nk (pm i).kc] we own2 V2 R2 s2 op' ka' kn kc')
     case first=>
      cases bb
      ·go_wp2_with fail
       go_meet
       case rel=>exact ⟨op,T3.out⟩
      ·go_wp2_with fail
       go_meet
       case rel=>exact ⟨1,T3.out.one z0⟩
     case rest=>
      obtain ⟨op',t4⟩:=hcut
      have T4:Hid _:=t4
      clear t4 n2 nf zn
      obtain ⟨we,hwe⟩:∃y,y=wc:=⟨_,rfl⟩
      subst hwe
      go_wp2_with fail
      refine (HE1.out we own2 V2 R2 _ lp rs l s2 T4.out.ws T4.out.len T4.out.at_ (SFn.of HF.out T4.out.sc) (by have:=psq.out;omega) Zo ⟨hlp.1,by have:=hlp.2;omega⟩).mono ?_
      rintro e w5 ⟨r,hr,rfl,hp⟩
      obtain ⟨own5,V5,R5,s5,t5,f5,rel5⟩:=T4.out.post hp
      have T5:Hid _:=t5
      have REL:Hid (Rel (pdOf pm) FX l (lp l) (rs l) q s1 s5):=by
       refine relC.plain ?_ ?_
       ·show plainB (pm q).kind=true
        rcases HENT.out with ⟨e,_⟩|⟨e,_⟩|⟨e,_⟩ <;> rw[e] <;> rfl
       ·show SeqR _ _ _ _ _ (pm q).kd (pm q).nk _ _
        rw[HNQ.out]
        exact relC.ssnoc SQ2.out (by rw[A1.out];exact rel5)
      have SQ5:Hid (SeqR (pdOf pm) FX l (lp l) (rs l) (pm i).kd (j+1) s s5):=relC.ssnoc SQ1.out (by rw[qn.out];exact REL.out)
      clear hp t5 f5 rel5
      obtain ⟨ol,r1,r2,r3⟩:=T5.out.kids
      have R1':Hid _:=r1
      have R2':Hid _:=r2
      have R3':Hid _:=r3
      have hxo:=r1.row
      rw[r2] at hxo
      have n7:=Blk.at_ T5.out.n 7 rfl
      have zn:=Blk.lt T5.out.n
      obtain ⟨i2,hi2,hy0,hy1,hy2⟩:=info_parts info_int
      have N:=Blk.new w5 3 #[.int .i64 xr,.int .i64 r]
      have kb:kn<=400:=by have:=HKN.out;omega
      clear r1 r2 r3
      go_wp2_with (first|(at_builtin;refine wpList_app _ rfl (.tmp 95) (.tmp 98) 64 rfl (w.heap.size+2) 3 i2 _ 1 8 Tryz.underlying64 hi2 hy0 hy1 hy2 rfl Zb (.slice ka' kn kc') kn ol.flatten rfl (World.ownsRow.alloc hxo _) ⟨w5.heap.size,0,none⟩ 2 2 [.int .i64 xr,.int .i64 r] rfl rfl (fun j u hj=>by rw[Go.WideShapes.add_plain,N.cell,Nat.zero_add];simpa using hj) J262 Zb Zm Zo Zj ?_;intro g10 cap10 w10 hown hgrow hwhere;have TW:=T5.out.two z0 R1'.out R2'.out R3'.out (Onw.alloc _ _) hown hgrow hwhere;have n72:w10.cell? ⟨w.heap.size+1,7,none⟩=some (.slice ka' kn kc'):=(Blk.cell TW.1 7).trans rfl;have nf2:=Blk.free TW.1;have zn2:=Blk.lt TW.1))
      go_roundw
      case rel=>exact ⟨j+1,cnt',own5,V5,R5,s5,op',some ⟨g10,0,none⟩,kn+2,cap10,by omega,by go_num,rfl,g0,by omega,by have:=HKN.out;omega,TW.2.more (by have:=hps.out;have:=psq.out;omega),SQ5.out⟩
      case measure=>simp[intOf];omega
  ·obtain rfl:j=(pm i).nk:=Zo
   have t1:=T1.out.n
   have n0:=Blk.at_ t1 0 rfl
   have n1:=Blk.at_ t1 1 rfl
   have n2:=Blk.at_ t1 2 rfl
   have n3:=Blk.at_ t1 3 rfl
   have n4:=Blk.at_ t1 4 rfl
   have n5:=Blk.at_ t1 5 rfl
   have n6:=Blk.at_ t1 6 rfl
   have n7:=Blk.at_ t1 7 rfl
   have zn:=Blk.lt t1
   clear t1
   go_wp2_with fail
   refine (add_ws T1.out.ws Zo T1.out.len ⟨⟨35,0,op,0,0,{data:= #[]},0,fun _=>0,kn,fun _=>0⟩,none,0,ka',kc'⟩).mono ?_
   rintro e w9 ⟨r,hr,rfl,own9,V9,R9,h9,fr9,sr9⟩
   have P:Hid (PostS w0 wp tv own w R (B+4000*sz i) lp rs w9 (fun s'=>SeqR (pdOf pm) FX l (lp l) (rs l) (pm i).kd (pm i).nk s s'/\s'.sc=s.sc)):=⟨own9,V9,R9,s1,h9.more Zo,T1.out.fr.trans fr9,T1.out.at_.same sr9,by rw[sr9.len,T1.out.len,HL.out],Mono.trans T1.out.mono (T1.out.len.trans HL.out.symm) sr9.mono,SQ1.out,T1.out.sc⟩
   clear h9 fr9 sr9
   exact J71
end Go.Proofs.YtlibofjbhhdjdaaGreat
