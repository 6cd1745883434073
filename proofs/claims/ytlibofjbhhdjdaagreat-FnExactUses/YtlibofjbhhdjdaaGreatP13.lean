import Derived.Test.YtlibofjbhhdjdaaGreatQ
import Derived.Test.YtlibofjbhhdjdaaGreatP12
set_option linter.unusedSimpArgs false
set_option maxRecDepth 100000
set_option maxHeartbeats 16000000
namespace Go.Proofs.YtlibofjbhhdjdaaGreat
open Go.RowKit
variable {x:List Value} {B cap g i n wp:Nat} {rs:Nat->Bool} {lp:Nat->Int} {R:Nat->List (List Value)} {own:Nat->Nat} {V:Nat->Value} {tv:Value} {w w0:World}
theorem info_fn:(Tryz.prog.info? 73).map (fun i=>(i.zero,i.size,i.bytes))=some (some (.agg #[.string ByteArray.empty,.int .i64 0,.int .i64 0,.bool false,.slice none 0 0,.slice none 0 0,.slice none 0 0]),7,112):=by kernel_rfl
theorem info_l7f:(Tryz.prog.info? 75).map (fun i=>(i.zero,i.size,i.bytes))=some (some (.agg #[.int .i64 0,.string ByteArray.empty,.int .i64 0,.int .i64 0,.bool false,.slice none 0 0,.slice none 0 0,.slice none 0 0,.int .i64 0]),9,128):=by kernel_rfl
theorem RowAt.nil (w:World)(base:Nat)(own:Nat->Nat)(id:Nat)(e:TypeId)(z:Nat):RowAt w base own id e z (.slice none 0 0) []:=⟨World.ownsRow_nil _ _ _ _,fun x hx=>by simp at hx,fun g hg=>by simp[Value.ownBlock] at hg⟩
theorem Ws.openL {w0 w w1 w2:World}(h:Ws w0 w wp tv own V R B lp rs){l:Nat}(hl:(R 2).length=l+1){num:Int}{nm:ByteArray}{ln pr:Int}{re:Bool}(hw1:Onw w w1)(hown:w2.ownsRow w0.heap.size (rowT 2) (rowZ 2) (.slice (some ⟨g,0,none⟩) ((R 2).length+1:Nat) cap) ((R 2).length+1) ((R 2).flatten++ [.int .i64 num,.string nm,.int .i64 ln,.int .i64 pr,.bool re,.slice none 0 0,.slice none 0 0,.slice none 0 0,.int .i64 0]))(hgrow:w1.grownBy w2 (V 2).ownBlock)(hwh:(V 2).ownBlock=some g\/w1.heap.size<=g):
  Ws w0 (w2.setCell ⟨wp,2,none⟩ (.slice (some ⟨g,0,none⟩) ((R 2).length+1:Nat) cap)) wp tv (bump own w.heap.size g 3) (setV V 2 (.slice (some ⟨g,0,none⟩) ((R 2).length+1:Nat) cap)) (pushR R 2 [.int .i64 num,.string nm,.int .i64 ln,.int .i64 pr,.bool re,.slice none 0 0,.slice none 0 0,.slice none 0 0,.int .i64 0]) (B+1) (fun k=>if k=l+1 then 0 else lp k) (fun k=>if k=l+1 then re else rs k)
  /\Fr own (bump own w.heap.size g 3) w (w2.setCell ⟨wp,2,none⟩ (.slice (some ⟨g,0,none⟩) ((R 2).length+1:Nat) cap)):=by
 obtain ⟨a,b⟩:=h.wk.push (j:=2) Zo Zo rfl hw1 hown hgrow hwh
 refine ⟨⟨a,fun i i1 i2=>?_,fun k hk=>?_⟩,b⟩
 ·exact J154
 ·have e2:pushR R 2 [.int .i64 num,.string nm,.int .i64 ln,.int .i64 pr,.bool re,.slice none 0 0,.slice none 0 0,.slice none 0 0,.int .i64 0] 2=R 2++ [[.int .i64 num,.string nm,.int .i64 ln,.int .i64 pr,.bool re,.slice none 0 0,.slice none 0 0,.slice none 0 0,.int .i64 0]]:=if_pos rfl
  rw[e2,List.length_append] at hk
  rw[e2]
  simp only[List.length_singleton] at hk
  by_cases hlt:k < l+1
  ·obtain ⟨c,h1,h2⟩:=h.lvs k Zo
   refine ⟨c,by rw[List.getElem?_append_left Zo];exact h1,?_⟩
   simp only[if_neg (show¬k=l+1 by omega)]
   refine h2.kept (p:=fun k=>k < w.heap.size/\some k≠(V 2).ownBlock/\k≠wp) ?_ ?_ b.tags (Nat.le_succ _)
   ·exact fun k hk=>((ksc w2 wp 2 _) k hk.2.2).trans ((hgrow.block k (by have:=hw1.size;omega) hk.2.1).trans (hw1.block k hk.1))
   ·intro g' hg' ho
    have hr:=h.wk.rows 2 Zo Zo
    exact J158
  ·obtain rfl:k=l+1:=Zo
   refine ⟨_,by rw[List.getElem?_append_right Zo,hl];simp;rfl,?_⟩
   simp only[if_true]
   exact ⟨num,nm,ln,pr,_,_,_, [], [], [],rfl,RowAt.nil _ _ _ _ _ _,RowAt.nil _ _ _ _ _ _,RowAt.nil _ _ _ _ _ _,fun x hx=>by simp at hx,Nat.zero_le _,Nat.zero_le _,Nat.zero_le _⟩
theorem Ws.closeL {lp lp':Nat->Int}{rs rs':Nat->Bool}(h:Ws w0 w wp tv own V R B lp rs){va:Option Addr}{n vc m:Nat}(hv:V 2= .slice va n vc)(hm:m<=(R 2).length)(e1:∀k,k < m->lp' k=lp k)(e2:∀k,k < m->rs' k=rs k):
  Ws w0 (w.setCell ⟨wp,2,none⟩ (.slice va m vc)) wp tv own (setV V 2 (.slice va m vc)) (fun k=>if k=2 then (R k).take m else R k) B lp' rs'/\Fr own own w (w.setCell ⟨wp,2,none⟩ (.slice va m vc)):=by
 have wlt:=h.wk.blk.lt
 have hfr:Fr own own w (w.setCell ⟨wp,2,none⟩ (.slice va m vc)):=⟨by simp only[World.size_setCell];exact Nat.le_refl _,fun _ _=>rfl,fun k hk=>ksc w wp 2 _ k (fun e=>by have:=h.wk.wpo;rw[<-e] at this;omega)⟩
 have KK:∀k,own k≠1->k < w.heap.size->(w.setCell ⟨wp,2,none⟩ (.slice va m vc)).heap[k]?= w.heap[k]?:= fun k hk _=>ksc w wp 2 _ k (fun e=>hk (by rw[e];exact h.wk.wpo))
 refine ⟨⟨⟨bset h.wk.ov h.wk.wpb _,h.wk.wpb,h.wk.blk.set 2 (.slice va m vc),h.wk.wpo,h.wk.low,fun k hk=>h.wk.high k J309,fun i i1 i2=>?_⟩,fun i i1 i2=>?_,fun k hk=>?_⟩,hfr⟩
 ·have hr:=h.wk.rows i i1 i2
  by_cases e:i=2
  ·subst e
   have e1:setV V 2 (.slice va m vc) 2= .slice va m vc:=if_pos rfl
   simp only[if_true]
   rw[e1]
   rw[hv] at hr
   exact (hr.take hm).kept (p:=fun k=>own k=3/\k < w.heap.size) (fun k hk=>KK k Zo hk.2) (fun g hg=>⟨hr.mine g J286,(hr.row.lt g J286).2⟩) (fun _ _=>rfl)
  ·have e1:setV V 2 (.slice va m vc) i=V i:=if_neg e
   exact J130
 ·have:=h.lens i i1 i2
  by_cases e:i=2
  ·simp only[if_pos e];rw[List.length_take];omega
  ·simp only[if_neg e];exact this
 ·simp only[if_true,List.length_take] at hk ⊢
  obtain ⟨c,h1,h2⟩:=h.lvs k Zo
  refine ⟨c,by rw[List.getElem?_take,if_pos Zo];exact h1,?_⟩
  rw[e1 k Zo,e2 k Zo]
  exact h2.kept (p:=fun g=>g < w.heap.size/\(own g=100+3*k\/own g=101+3*k\/own g=102+3*k)) (fun g hg=>KK g Zo hg.1) (fun g hg ho=>⟨hg,ho⟩) (fun _ _=>rfl) (Nat.le_refl _)
theorem Ws.set3 (h:Ws w0 w wp tv own V R B lp rs){g n cap i c:Nat}(hv:V 3= .slice (some ⟨g,0,none⟩) n cap)(hx:(R 3)[i]?= some x)(hc:c < 7)(v:Value):
  Ws w0 (w.setCell ⟨g,i*7+c,none⟩ v) wp tv own V (fun j=>if j=3 then (R 3).set i (x.set c v) else R j) B lp rs/\Fr own own w (w.setCell ⟨g,i*7+c,none⟩ v):=by
 have r3:=h.wk.rows 3 Zo Zo
 have hg:own g=4/\w0.heap.size<=g/\g < w.heap.size:=by
  have e:(V 3).ownBlock=some g:=by rw[hv];rfl
  exact ⟨r3.mine g e,r3.row.lt g e⟩
 have KK:∀k,own k≠4->(w.setCell ⟨g,i*7+c,none⟩ v).heap[k]?= w.heap[k]?:= fun k hk=>ksc w g (i*7+c) v k (fun e=>hk (by rw[e];exact hg.1))
 have hfr:Fr own own w (w.setCell ⟨g,i*7+c,none⟩ v):=⟨by simp only[World.size_setCell];exact Nat.le_refl _,fun _ _=>rfl,fun k hk=>KK k Zo⟩
 refine ⟨⟨⟨bset h.wk.ov hg.2.1 _,h.wk.wpb,(KK wp (by rw[h.wk.wpo];omega)).trans h.wk.blk,h.wk.wpo,h.wk.low,fun k hk=>h.wk.high k J309,fun j j1 j2=>?_⟩,fun j j1 j2=>?_,fun k hk=>?_⟩,hfr⟩
 ·by_cases e:j=3
  ·subst e
   simp only[if_true]
   have r:=r3
   rw[hv] at r ⊢
   exact r.setc hx hc v
  ·simp only[if_neg e]
   have r:=h.wk.rows j j1 j2
   exact r.kept (p:=fun k=>own k=j+1) (fun k hk=>KK k Zo) (fun q hq=>r.mine q hq) (fun _ _=>rfl)
 ·by_cases e:j=3
  ·subst e;simp only[if_true,List.length_set];exact h.lens 3 j1 j2
  ·simp only[if_neg e];exact h.lens j j1 j2
 ·simp only[if_neg (show¬2=3 by omega)] at hk ⊢
  obtain ⟨cs,h1,h2⟩:=h.lvs k hk
  exact ⟨cs,h1,h2.kept (p:=fun q=>own q=100+3*k\/own q=101+3*k\/own q=102+3*k) (fun q hq=>KK q Zo) (fun q _ ho=>ho) (fun _ _=>rfl) (Nat.le_refl _)⟩
theorem Ws.set3one (h:Ws w0 w wp tv own V R B lp rs){g n cap i c:Nat}(hv:V 3= .slice (some ⟨g,0,none⟩) n cap)(hx:(R 3)[i]?= some x)(hc:c < 7)(v:Value):
  ∃R' x',Ws w0 (w.setCell ⟨g,i*7+c,none⟩ v) wp tv own V R' B lp rs/\Fr own own w (w.setCell ⟨g,i*7+c,none⟩ v)/\(∀j,j≠3->R' j=R j)/\(R' 3).length=(R 3).length/\(R' 3)[i]?= some x':=by
 obtain ⟨a,b⟩:=h.set3 hv hx hc v
 refine ⟨_,x.set c v,a,b,fun j hj=>if_neg hj,by simp,?_⟩
 simp only[if_true]
 exact List.getElem?_set_self (List.getElem?_eq_some_iff.1 hx).1
theorem Ws.set3all (h:Ws w0 w wp tv own V R B lp rs)(hv:V 3= .slice (some ⟨g,0,none⟩) n cap)(hx:(R 3)[i]?= some x)(v0 v1 v2 v3 v4 v5 v6:Value):
  ∃R',Ws w0 ((((((((w).setCell ⟨g,i*7,none⟩ v0).setCell ⟨g,i*7+1,none⟩ v1).setCell ⟨g,i*7+2,none⟩ v2).setCell ⟨g,i*7+3,none⟩ v3).setCell ⟨g,i*7+4,none⟩ v4).setCell ⟨g,i*7+5,none⟩ v5).setCell ⟨g,i*7+6,none⟩ v6) wp tv own V R' B lp rs/\Fr own own w ((((((((w).setCell ⟨g,i*7,none⟩ v0).setCell ⟨g,i*7+1,none⟩ v1).setCell ⟨g,i*7+2,none⟩ v2).setCell ⟨g,i*7+3,none⟩ v3).setCell ⟨g,i*7+4,none⟩ v4).setCell ⟨g,i*7+5,none⟩ v5).setCell ⟨g,i*7+6,none⟩ v6)/\(∀j,j≠3->R' j=R j)/\(R' 3).length=(R 3).length:=by
 obtain ⟨R0,y0,a0,b0,c0,d0,e0⟩:=h.set3one hv hx (c:=0) Zo v0
 rw[Nat.add_zero] at a0 b0
 obtain ⟨R1,y1,a1,b1,c1,d1,e1⟩:=a0.set3one hv e0 (c:=1) Zo v1
 obtain ⟨R2,y2,a2,b2,c2,d2,e2⟩:=a1.set3one hv e1 (c:=2) Zo v2
 obtain ⟨R3,y3,a3,b3,c3,d3,e3⟩:=a2.set3one hv e2 (c:=3) Zo v3
 obtain ⟨R4,y4,a4,b4,c4,d4,e4⟩:=a3.set3one hv e3 (c:=4) Zo v4
 obtain ⟨R5,y5,a5,b5,c5,d5,e5⟩:=a4.set3one hv e4 (c:=5) Zo v5
 obtain ⟨R6,y6,a6,b6,c6,d6,e6⟩:=a5.set3one hv e5 (c:=6) Zo v6
 exact ⟨R6,a6,((((((b0).trans b1).trans b2).trans b3).trans b4).trans b5).trans b6,fun j hj=>(c6 j hj).trans ((c5 j hj).trans ((c4 j hj).trans ((c3 j hj).trans ((c2 j hj).trans ((c1 j hj).trans (c0 j hj)))))),d6.trans (d5.trans (d4.trans (d3.trans (d2.trans (d1.trans (d0))))))⟩
end Go.Proofs.YtlibofjbhhdjdaaGreat
namespace Go.Proofs.YtlibofjbhhdjdaaGreat
open Go.RowKit
abbrev PB (m:PM) (a:Option Addr) (n:Nat):Array Value:= #[.int .i64 m.kind,.int .i64 m.frm,.int .i64 m.tto,.int .i64 m.line,.int .i64 m.op,.int .i64 m.num,.float .f64 m.flt,.string m.text,.slice m.na m.nn m.nc,.slice a n m.kc]
theorem kindsAt {k K:Int}(h:k=K):(k==1)=(K==1)/\(k==2)=(K==2)/\(k==3)=(K==3)/\(k==4)=(K==4)/\(k==5)=(K==5)/\(k==6)=(K==6)/\(k==15)=(K==15)/\(k==13)=(K==13)/\(k==16)=(K==16)/\(k==7)=(K==7)/\(k==8)=(K==8)/\(k==9)=(K==9)/\(k==10)=(K==10)/\(k==11)=(K==11)/\(k==12)=(K==12)/\(k==14)=(K==14):=by
 subst h
 exact ⟨rfl,rfl,rfl,rfl,rfl,rfl,rfl,rfl,rfl,rfl,rfl,rfl,rfl,rfl,rfl,rfl⟩
theorem hid10 {a b c d e f g h i j:Prop}(a1:a)(b1:b)(c1:c)(d1:d)(e1:e)(f1:f)(g1:g)(h1:h)(i1:i)(j1:j):Hid a/\Hid b/\Hid c/\Hid d/\Hid e/\Hid f/\Hid g/\Hid h/\Hid i/\Hid j:=⟨a1,b1,c1,d1,e1,f1,g1,h1,i1,j1⟩
theorem stat_pre {w0 w:World}{wp:Nat}{tv:Value}{own:Nat->Nat}{V:Nat->Value}{R:Nat->List (List Value)}{B:Nat}{lp:Nat->Int}{rs:Nat->Bool}{s:St}{np:Nat}{pm:Nat->PM}{sz:Nat->Nat}(tr:Tr w0 tv np pm sz){i:Nat}(hi:i < np)(h:Ws w0 w wp tv own V R B lp rs)(hs:s.At R):
  ∃pa pc pb po sa sc',tv= .slice pa np pc/\PartsAt w0 pa np pm/\pa=some ⟨pb,po,none⟩/\(∀i,i < np->PartCells w0 pb (po+i*10) (pm i))/\V 1= .slice sa s.sc.length sc'/\PartCells w pb (po+i*10) (pm i)/\w.cell? ⟨wp,0,none⟩=some (.slice (some ⟨pb,po,none⟩) np pc)/\w.cell? ⟨wp,1,none⟩=some (.slice sa s.sc.length sc')/\pb < w.heap.size/\wp < w.heap.size/\(0:Int)<=(i:Int)/\(i:Int) < (np:Int)/\psum sz (pm i).kd (pm i).nk+1<=sz i/\(pm i).nk<=200/\(pm i).nn<=200:=by
 obtain ⟨pa,pc,htv,ha⟩:=tr.at_
 obtain ⟨pb,po,hpa,hpc⟩:=ha.1 Zo
 have C:=(hpc i hi).onw h.wk.ov
 obtain ⟨sa,sc',hv1⟩:∃va vc,V 1= .slice va s.sc.length vc:=by
  exact J126
 exact ⟨pa,pc,pb,po,sa,sc',htv,ha,hpa,hpc,hv1,C,by rw[h.blk.cell,<-hpa,<-htv];rfl,by rw[h.blk.cell,<-hv1];rfl,clt C.c0,h.blk.lt,by omega,by omega,tr.szs i hi,tr.nkl i hi,tr.nnl i hi⟩
structure Sd (w0:World) (wp:Nat) (tv:Value) (w:World) (own:Nat->Nat) (R:Nat->List (List Value)) (l:Nat) (P:Array Value) (B:Nat) (lp:Nat->Int) (rs:Nat->Bool) (N:Array Value) (wx:World) (own':Nat->Nat) (V':Nat->Value) (R':Nat->List (List Value)) (s':St):Prop where
 ws:Ws w0 wx wp tv own' V' R' B lp rs
 fr:Fr own own' w wx
 at_:s'.At R'
 len:(R' 2).length=l+1
 mono:Mono R R'
 pb:Blk wx w.heap.size 67 P
 nb:Blk wx (w.heap.size+1) 97 N
 op:own' w.heap.size=0
 on:own' (w.heap.size+1)=0
 base:w0.heap.size<=w.heap.size
 lenR:(R 2).length=l+1
variable {w0 : World} {wp : Nat} {tv : Value} {w : World} {own : Nat -> Nat} {R : Nat -> List (List Value)} {l : Nat} {P : Array Value} {B : Nat} {lp : Nat -> Int} {rs : Nat -> Bool} {N : Array Value} {wx : World} {own' : Nat -> Nat} {V' : Nat -> Value} {R' : Nat -> List (List Value)} {s' : St}
theorem Sd.start {V:Nat->Value}{s:St}(h:Ws w0 w wp tv own V R B lp rs)(hl:(R 2).length=l+1)(hs:s.At R)(P N:Array Value):Sd w0 wp tv w own R l P B lp rs N ((w.alloc (.cells P 67)).alloc (.cells N 97)) own V R s where
 ws:=h.onw ((Onw.alloc _ _).trans (Onw.alloc _ _))
 fr:=Fr.onw ((Onw.alloc _ _).trans (Onw.alloc _ _))
 at_:=hs
 len:=hl
 mono:=Mono.refl _
 pb:=(Blk.new w _ P).onw (Onw.alloc _ _)
 nb:=by have:=Blk.new (w.alloc (.cells P 67)) 97 N;rw[World.size_alloc] at this;exact this
 op:=h.wk.high _ (Nat.le_refl _)
 on:=h.wk.high _ Zo
 base:=h.wk.ov.size
 lenR:=hl
theorem Sd.onw (h:Sd w0 wp tv w own R l P B lp rs N wx own' V' R' s'){wy:World}(o:Onw wx wy):Sd w0 wp tv w own R l P B lp rs N wy own' V' R' s' where
 ws:=h.ws.onw o
 fr:=h.fr.trans (Fr.onw o)
 at_:=h.at_
 len:=h.len
 mono:=h.mono
 pb:=h.pb.onw o
 nb:=h.nb.onw o
 op:=h.op
 on:=h.on
 base:=h.base
 lenR:=h.lenR
theorem Sd.step (h:Sd w0 wp tv w own R l P B lp rs N wx own' V' R' s'){wy:World}{own2:Nat->Nat}{V2:Nat->Value}{R2:Nat->List (List Value)}{s2:St}{B2:Nat}(hw:Ws w0 wy wp tv own2 V2 R2 B2 lp rs)(f:Fr own' own2 wx wy)(a:s2.At R2)(e:(R2 2).length=(R' 2).length)(m:Mono R' R2):Sd w0 wp tv w own R l P B2 lp rs N wy own2 V2 R2 s2 where
 ws:=hw
 fr:=h.fr.trans f
 at_:=a
 len:=e.trans h.len
 mono:=Mono.trans h.mono (h.len.trans h.lenR.symm) m
 pb:=(f.kept _ ⟨h.pb.lt,h.op⟩).trans h.pb
 nb:=(f.kept _ ⟨h.nb.lt,h.on⟩).trans h.nb
 op:=by rw[f.tags _ h.pb.lt];exact h.op
 on:=by rw[f.tags _ h.nb.lt];exact h.on
 base:=h.base
 lenR:=h.lenR
theorem Sd.postS (h:Sd w0 wp tv w own R l P B lp rs N wx own' V' R' s'){wy:World}{B2:Nat}{Q:St->Prop}(p:PostS w0 wp tv own' wx R' B2 lp rs wy Q):∃own2 V2 R2 s2,Sd w0 wp tv w own R l P B2 lp rs N wy own2 V2 R2 s2/\Q s2/\Fr own' own2 wx wy:=by
 obtain ⟨own2,V2,R2,s2,h1,h2,h3,h4,h5,h6⟩:=p
 exact ⟨own2,V2,R2,s2,h.step h1 h2 h3 h4 h5,h6,h2⟩
theorem Sd.post (h:Sd w0 wp tv w own R l P B lp rs N wx own' V' R' s'){wy:World}{B2:Nat}(p:Post w0 wp tv own' wx R' B2 lp rs wy):∃own2 V2 R2,Sd w0 wp tv w own R l P B2 lp rs N wy own2 V2 R2 s'/\Fr own' own2 wx wy:=by
 obtain ⟨own2,V2,R2,h1,h2,h3⟩:=p
 exact ⟨own2,V2,R2,h.step h1 h2 (h.at_.same h3) h3.len h3.mono,h2⟩
theorem Sd.more (h:Sd w0 wp tv w own R l P B lp rs N wx own' V' R' s'){B2:Nat}(hB:B<=B2):Sd w0 wp tv w own R l P B2 lp rs N wx own' V' R' s':={h with ws:=h.ws.more hB}
theorem Sd.setN (h:Sd w0 wp tv w own R l P B lp rs N wx own' V' R' s')(o:Nat)(v:Value):Sd w0 wp tv w own R l P B lp rs (N.setIfInBounds o v) (wx.setCell ⟨w.heap.size+1,o,none⟩ v) own' V' R' s' where
 ws:=h.ws.store h.on (by have:=h.base;omega) o v
 fr:=h.fr.store Zo o v
 at_:=h.at_
 len:=h.len
 mono:=h.mono
 pb:=h.pb.far Zo o v
 nb:=h.nb.set o v
 op:=h.op
 on:=h.on
 base:=h.base
 lenR:=h.lenR
theorem LRow.new (w:World)(base:Nat)(own:Nat->Nat)(hb:base<=w.heap.size)(ho:own w.heap.size=0)(q:Int):LRow (w.alloc (.cells #[.int .i64 q] 3)) base own (some ⟨w.heap.size,0,none⟩) 1 1:=by
 refine ⟨[[.int .i64 q]],⟨?_,fun x hx=>by simp at hx;rw[hx];rfl,fun g hg=>?_⟩,rfl,fun y hy=>⟨q,by simpa using hy⟩⟩
 ·refine ⟨rfl,Or.inr ⟨w.heap.size,1,#[.int .i64 q],rfl,hb,Blk.new w _ _,Nat.le_refl _,by simp[maxLen],rfl,rfl⟩⟩
 ·exact J204
theorem declR_33 (R:Nat->List (List Value))(f:Nat->SNm)(n:Nat)(part:Int)(nm:Nat->ByteArray)(l:Nat)(vs:Nat->Int):∀c,declR R f n part nm l vs c 3=R 3
 |0=>rfl
 |c+1=>by
  rw[declR]
  show noteR _ _ _ 3=_
  unfold noteR
  cases shadowB (declF f n part nm l vs c) (n+c) (l+1) part (nm c)
  ·exact declR_33 R f n part nm l vs c
  ·exact declR_33 R f n part nm l vs c
theorem Sd.decl (h:Sd w0 wp tv w own R l P B lp rs N wx own' V' R' s'){wy:World}{own2:Nat->Nat}{V2:Nat->Value}{R2:Nat->List (List Value)}{B2:Nat}{part:Int}{nm:Nat->ByteArray}{vs:Nat->Int}{c:Nat}(hw:Ws w0 wy wp tv own2 V2 R2 B2 lp rs)(f:Fr own' own2 wx wy)(sr:SameR (declR R' (scF s'.sc) s'.sc.length part nm l vs c) R2):Sd w0 wp tv w own R l P B2 lp rs N wy own2 V2 R2 (s'.declare part nm l vs c):=
 h.step hw f ((h.at_.declare part nm l vs c).same sr) (by rw[sr.len,declR_2]) (fun k hk=>by
  have b:=sr.mono k (by rw[declR_2];exact hk)
  unfold nlen at b ⊢
  rw[declR_2,declR_33] at b
  exact b)
theorem Sd.ret (h:Sd w0 wp tv w own R l P B lp rs N wx own' V' R' s')(r:Nat){B2:Nat}(hB:B<=B2){Q:St->Prop}(hQ:Q s'):∃own2 V2 R2 s2,Ws w0 (wx.alloc (.cells #[.int .i64 r] 3)) wp tv own2 V2 R2 B2 lp rs/\Fr own own2 w (wx.alloc (.cells #[.int .i64 r] 3))/\St.At s2 R2/\(R2 2).length=(R 2).length/\Mono R R2/\Q s2/\LRow (wx.alloc (.cells #[.int .i64 r] 3)) w.heap.size own2 (some ⟨wx.heap.size,0,none⟩) 1 1:=
 ⟨own',V',R',s',(h.ws.onw (Onw.alloc _ _)).more hB,h.fr.trans (Fr.onw (Onw.alloc _ _)),h.at_,h.len.trans h.lenR.symm,h.mono,hQ,LRow.new wx _ own' h.fr.size (h.ws.wk.high _ (Nat.le_refl _)) r⟩
theorem Sd.fin (h:Sd w0 wp tv w own R l P B lp rs N wx own' V' R' s'){wy:World}{r:Nat}(p:Post w0 wp tv own' wx R' (B+1) lp rs wy){B2:Nat}(hB:B+1<=B2){Q:St->Prop}(hQ:Q s'):∃own2 V2 R2 s2,Ws w0 (wy.alloc (.cells #[.int .i64 r] 3)) wp tv own2 V2 R2 B2 lp rs/\Fr own own2 w (wy.alloc (.cells #[.int .i64 r] 3))/\St.At s2 R2/\(R2 2).length=(R 2).length/\Mono R R2/\Q s2/\LRow (wy.alloc (.cells #[.int .i64 r] 3)) w.heap.size own2 (some ⟨wy.heap.size,0,none⟩) 1 1:=by
 obtain ⟨own2,V2,R2,h1,h2⟩:=h.post p
 exact ⟨own2,V2,R2,s',(h1.ws.onw (Onw.alloc _ _)).more hB,h1.fr.trans (Fr.onw (Onw.alloc _ _)),h1.at_,h1.len.trans h1.lenR.symm,h1.mono,hQ,LRow.new wy _ own2 h1.fr.size (h1.ws.wk.high _ (Nat.le_refl _)) r⟩
end Go.Proofs.YtlibofjbhhdjdaaGreat
namespace Go.Proofs.YtlibofjbhhdjdaaGreat
open Go.RowKit
theorem LRow.base {w:World}{b b':Nat}{own:Nat->Nat}{oa:Option Addr}{n oc:Nat}(h:LRow w b own oa n oc)(hb:b'<=b):LRow w b' own oa n oc:=by
 obtain ⟨ol,h1,h2,h3⟩:=h
 refine ⟨ol,⟨⟨h1.row.1,h1.row.2.imp id ?_⟩,h1.len,h1.mine⟩,h2,h3⟩
 exact J198
theorem LRow.far {w:World}{base:Nat}{own:Nat->Nat}{oa:Option Addr}{n oc:Nat}(h:LRow w base own oa n oc){b:Nat}(hb:b < base)(o:Nat)(v:Value):LRow (w.setCell ⟨b,o,none⟩ v) base own oa n oc:=by
 obtain ⟨ol,h1,h2,h3⟩:=h
 exact ⟨ol,h1.kept (p:=fun k=>k≠b) (fun k hk=>ksc w b o v k hk) (fun g hg=>by have:=(h1.row.lt g hg).1;omega) (fun _ _=>rfl),h2,h3⟩
theorem LRow.onw {w w':World}{base:Nat}{own:Nat->Nat}{oa:Option Addr}{n oc:Nat}(h:LRow w base own oa n oc)(o:Onw w w'):LRow w' base own oa n oc:=h.fr (Fr.onw o)
theorem LRow.two (w:World)(base:Nat)(own:Nat->Nat)(hb:base<=w.heap.size)(ho:own w.heap.size=0)(q q':Int):LRow (w.alloc (.cells #[.int .i64 q,.int .i64 q'] 3)) base own (some ⟨w.heap.size,0,none⟩) 2 2:=by
 refine ⟨[[.int .i64 q], [.int .i64 q']],⟨?_,fun x hx=>?_,fun g hg=>?_⟩,rfl,fun y hy=>?_⟩
 ·refine ⟨rfl,Or.inr ⟨w.heap.size,2,#[.int .i64 q,.int .i64 q'],rfl,hb,Blk.new w _ _,Nat.le_refl _,by simp[maxLen],rfl,rfl⟩⟩
 ·simp only[List.mem_cons,List.not_mem_nil,or_false] at hx
  rcases hx with e|e <;> rw[e] <;> rfl
 ·exact J204
 ·simp only[List.mem_cons,List.not_mem_nil,or_false] at hy
  rcases hy with e|e
  ·exact ⟨q,e⟩
  ·exact ⟨q',e⟩
variable {w0 : World} {wp : Nat} {tv : Value} {w : World} {own : Nat -> Nat} {R : Nat -> List (List Value)} {l : Nat} {P : Array Value} {B : Nat} {lp : Nat -> Int} {rs : Nat -> Bool} {N : Array Value} {wx : World} {own' : Nat -> Nat} {V' : Nat -> Value} {R' : Nat -> List (List Value)} {s' : St}
theorem Sd.app (h:Sd w0 wp tv w own R l P B lp rs N wx own' V' R' s'){ka:Option Addr}{kn kc:Nat}{ol:List (List Value)}(lr:RowAt wx (w.heap.size+2) own' 0 3 1 (.slice ka kn kc) ol)(hol:ol.length=kn)(hq:∀y∈ol,∃q:Int,y= [.int .i64 q]){w1 w2:World}{g cap:Nat}{r:Int}(hw1:Onw wx w1)(hown:w2.ownsRow (w.heap.size+2) 3 1 (.slice (some ⟨g,0,none⟩) (kn+1:Nat) cap) (kn+1) (ol.flatten++ [.int .i64 r]))(hgrow:w1.grownBy w2 (Value.slice ka kn kc).ownBlock)(hwhere:(Value.slice ka kn kc).ownBlock=some g\/w1.heap.size<=g):
  Sd w0 wp tv w own R l P B lp rs N w2 own' V' R' s'/\LRow w2 (w.heap.size+2) own' (some ⟨g,0,none⟩) (kn+1) cap:=by
 have hrow:∀x,(Value.slice ka kn kc).ownBlock=some x->own' x=0/\w.heap.size+2<=x:=fun x hx=>⟨lr.mine x hx,(lr.row.lt x hx).1⟩
 have hb:=h.base
 have z1:=hw1.size
 have z2:=hgrow.size
 have zp:=h.pb.lt
 have zn:=h.nb.lt
 have zf:=h.fr.size
 refine ⟨⟨h.ws.loc hw1 hgrow (fun x hx=>⟨(hrow x hx).1,by have:=(hrow x hx).2;omega⟩),⟨by omega,h.fr.tags,fun k hk=>?_⟩,h.at_,h.len,h.mono,?_,?_,h.op,h.on,hb,h.lenR⟩,⟨ol++ [[.int .i64 r]],lr.app hol rfl h.ws.wk.high hw1 hown hwhere,by rw[List.length_append,hol];rfl,fun y hy=>(List.mem_append.1 hy).elim (hq y) (fun h=>⟨_,List.mem_singleton.1 h⟩)⟩⟩
 ·exact (hgrow.block k Zo (fun e=>by have:=(hrow k e.symm).2;omega)).trans ((hw1.block k Zo).trans (h.fr.kept k hk))
 ·exact (hgrow.block _ Zo (fun e=>by have:=(hrow _ e.symm).2;omega)).trans (h.pb.onw hw1)
 ·exact (hgrow.block _ Zo (fun e=>by have:=(hrow _ e.symm).2;omega)).trans (h.nb.onw hw1)
theorem wrap_nat' {n:Nat}(h:n<=16777216):IntKind.i64.wrap (n:Int)=(n:Int):=by
 exact J214
theorem Sd.same (h:Sd w0 wp tv w own R l P B lp rs N wx own' V' R' s'){wy:World}{own2:Nat->Nat}{V2:Nat->Value}{R2:Nat->List (List Value)}{B2:Nat}(hw:Ws w0 wy wp tv own2 V2 R2 B2 lp rs)(f:Fr own' own2 wx wy)(sr:SameR R' R2):Sd w0 wp tv w own R l P B2 lp rs N wy own2 V2 R2 s':=h.step hw f (h.at_.same sr) sr.len sr.mono
theorem Sd.ret2 (h:Sd w0 wp tv w own R l P B lp rs N wx own' V' R' s')(r r':Nat){B2:Nat}(hB:B<=B2){Q:St->Prop}(hQ:Q s'):∃own2 V2 R2 s2,Ws w0 (wx.alloc (.cells #[.int .i64 r,.int .i64 r'] 3)) wp tv own2 V2 R2 B2 lp rs/\Fr own own2 w (wx.alloc (.cells #[.int .i64 r,.int .i64 r'] 3))/\St.At s2 R2/\(R2 2).length=(R 2).length/\Mono R R2/\Q s2/\LRow (wx.alloc (.cells #[.int .i64 r,.int .i64 r'] 3)) w.heap.size own2 (some ⟨wx.heap.size,0,none⟩) 2 2:=
 ⟨own',V',R',s',(h.ws.onw (Onw.alloc _ _)).more hB,h.fr.trans (Fr.onw (Onw.alloc _ _)),h.at_,h.len.trans h.lenR.symm,h.mono,hQ,LRow.two wx _ own' h.fr.size (h.ws.wk.high _ (Nat.le_refl _)) r r'⟩
theorem Sd.cut (h:Sd w0 wp tv w own R l P B lp rs N wx own' V' R' s'){va:Option Addr}{n vc m:Nat}(hv:V' 1= .slice va n vc)(hm:m<=(R' 1).length):∃V2 R2,Sd w0 wp tv w own R l P B lp rs N (wx.setCell ⟨wp,1,none⟩ (.slice va m vc)) own' V2 R2 (s'.cut m):=by
 obtain ⟨p1,p2⟩:=h.ws.cutR (j:=1) (m:=m) Zo Zo Zo hv hm
 exact ⟨_,_,h.step p1 p2 (h.at_.cut m) rfl (fun k _=>⟨Nat.le_refl _,Nat.le_refl _,Nat.le_refl _⟩)⟩
end Go.Proofs.YtlibofjbhhdjdaaGreat
