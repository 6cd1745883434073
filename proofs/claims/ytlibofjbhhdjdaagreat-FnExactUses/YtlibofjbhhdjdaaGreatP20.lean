import Derived.Test.YtlibofjbhhdjdaaGreatQ
import Derived.Test.YtlibofjbhhdjdaaGreatP13
set_option linter.unusedSimpArgs false
set_option maxRecDepth 100000
set_option maxHeartbeats 16000000
namespace Go.Proofs.YtlibofjbhhdjdaaGreat
open Go.RowKit
structure Sx (w0:World) (wp:Nat) (tv:Value) (w:World) (own:Nat->Nat) (R:Nat->List (List Value)) (l:Nat) (P:Array Value) (B:Nat) (lp:Nat->Int) (rs:Nat->Bool) (wx:World) (own':Nat->Nat) (V':Nat->Value) (R':Nat->List (List Value)) (s':St):Prop where
 ws:Ws w0 wx wp tv own' V' R' B lp rs
 fr:Fr own own' w wx
 at_:s'.At R'
 len:(R' 2).length=l+1
 mono:Mono R R'
 pb:Blk wx w.heap.size 67 P
 op:own' w.heap.size=0
 base:w0.heap.size<=w.heap.size
 lenR:(R 2).length=l+1
structure Xb (w:World) (wx:World) (own':Nat->Nat) (kx:Nat) (X:Array Value):Prop where
 xb:Blk wx kx 157 X
 ox:own' kx=0
 lo:w.heap.size < kx
variable {w0 : World} {wp : Nat} {tv : Value} {w : World} {own : Nat -> Nat} {R : Nat -> List (List Value)} {l : Nat} {P : Array Value} {B : Nat} {lp : Nat -> Int} {rs : Nat -> Bool} {wx : World} {own' : Nat -> Nat} {V' : Nat -> Value} {R' : Nat -> List (List Value)} {s' : St}
theorem Xb.fr {kx:Nat}{X:Array Value}(h:Xb w wx own' kx X){own2:Nat->Nat}{wy:World}(f:Fr own' own2 wx wy):Xb w wy own2 kx X:=⟨(f.kept _ ⟨h.xb.lt,h.ox⟩).trans h.xb,by rw[f.tags _ h.xb.lt];exact h.ox,h.lo⟩
theorem Sx.start {V:Nat->Value}{s:St}(h:Ws w0 w wp tv own V R B lp rs)(hl:(R 2).length=l+1)(hs:s.At R)(P:Array Value):Sx w0 wp tv w own R l P B lp rs (w.alloc (.cells P 67)) own V R s where
 ws:=h.onw (Onw.alloc _ _)
 fr:=Fr.onw (Onw.alloc _ _)
 at_:=hs
 len:=hl
 mono:=Mono.refl _
 pb:=Blk.new w _ P
 op:=h.wk.high _ (Nat.le_refl _)
 base:=h.wk.ov.size
 lenR:=hl
theorem Sx.onw (h:Sx w0 wp tv w own R l P B lp rs wx own' V' R' s'){wy:World}(o:Onw wx wy):Sx w0 wp tv w own R l P B lp rs wy own' V' R' s' where
 ws:=h.ws.onw o
 fr:=h.fr.trans (Fr.onw o)
 at_:=h.at_
 len:=h.len
 mono:=h.mono
 pb:=h.pb.onw o
 op:=h.op
 base:=h.base
 lenR:=h.lenR
theorem Sx.step (h:Sx w0 wp tv w own R l P B lp rs wx own' V' R' s'){wy:World}{own2:Nat->Nat}{V2:Nat->Value}{R2:Nat->List (List Value)}{s2:St}{B2:Nat}(hw:Ws w0 wy wp tv own2 V2 R2 B2 lp rs)(f:Fr own' own2 wx wy)(a:s2.At R2)(e:(R2 2).length=(R' 2).length)(m:Mono R R2):Sx w0 wp tv w own R l P B2 lp rs wy own2 V2 R2 s2 where
 ws:=hw
 fr:=h.fr.trans f
 at_:=a
 len:=e.trans h.len
 mono:=m
 pb:=(f.kept _ ⟨h.pb.lt,h.op⟩).trans h.pb
 op:=by rw[f.tags _ h.pb.lt];exact h.op
 base:=h.base
 lenR:=h.lenR
theorem Sx.postS (h:Sx w0 wp tv w own R l P B lp rs wx own' V' R' s'){wy:World}{B2:Nat}{Q:St->Prop}(p:PostS w0 wp tv own' wx R' B2 lp rs wy Q):∃own2 V2 R2 s2,Sx w0 wp tv w own R l P B2 lp rs wy own2 V2 R2 s2/\Q s2/\Fr own' own2 wx wy:=by
 obtain ⟨own2,V2,R2,s2,h1,h2,h3,h4,h5,h6⟩:=p
 exact ⟨own2,V2,R2,s2,h.step h1 h2 h3 h4 (Mono.trans h.mono (h.len.trans h.lenR.symm) h5),h6,h2⟩
theorem Sx.more (h:Sx w0 wp tv w own R l P B lp rs wx own' V' R' s'){B2:Nat}(hB:B<=B2):Sx w0 wp tv w own R l P B2 lp rs wx own' V' R' s':={h with ws:=h.ws.more hB}
theorem Sx.setX (h:Sx w0 wp tv w own R l P B lp rs wx own' V' R' s'){kx:Nat}{X:Array Value}(x:Xb w wx own' kx X)(o:Nat)(v:Value):Sx w0 wp tv w own R l P B lp rs (wx.setCell ⟨kx,o,none⟩ v) own' V' R' s'/\Xb w (wx.setCell ⟨kx,o,none⟩ v) own' kx (X.setIfInBounds o v):=
 ⟨{ws:=h.ws.store x.ox (by have:=h.base;have:=x.lo;omega) o v,fr:=h.fr.store (by have:=x.lo;omega) o v,at_:=h.at_,len:=h.len,mono:=h.mono,pb:=h.pb.far (by have:=x.lo;omega) o v,op:=h.op,base:=h.base,lenR:=h.lenR},⟨x.xb.set o v,x.ox,x.lo⟩⟩
theorem Ws.tops (h:Ws w0 wx wp tv own' V' R' B lp rs)(hl:(R' 2).length=l+1){g cap:Nat}(hv2:V' 2= .slice (some ⟨g,0,none⟩) (l+1:Nat) cap):
  (∃va vc,wx.cell? ⟨g,l*9+1+6,none⟩=some (.slice va (nlen R' l 7) vc))/\(∃va vc,wx.cell? ⟨g,l*9+1+5,none⟩=some (.slice va (nlen R' l 6) vc))/\nlen R' l 7<=B/\nlen R' l 6<=B:=by
 obtain ⟨g',cap',cells,hv,hnc,ho,hk,hcl,hL,hcc,hfz⟩:=h.level (k:=l) Zo
 have hg':g'=g:=Ze
 subst hg'
 obtain ⟨num,nam,ln,pr,vv,uv,nv,vls,us,ns,hcells,rv,ru,rn,hus,lv,lu,lnn⟩:=hL
 have e7:nlen R' l 7=ns.length:=by unfold nlen;rw[hk,hcells];exact rn.slen
 have e6:nlen R' l 6=us.length:=by unfold nlen;rw[hk,hcells];exact ru.slen
 have c7:wx.cell? ⟨g',l*9+1+6,none⟩=some nv:=by rw[show l*9+1+6=l*9+7 by omega,hcc 7 Zo,hcells];rfl
 have c6:wx.cell? ⟨g',l*9+1+5,none⟩=some uv:=by rw[show l*9+1+5=l*9+6 by omega,hcc 6 Zo,hcells];rfl
 refine ⟨?_,?_,by omega,by omega⟩
 ·rw[e7,c7]
  rcases rn.row.2 with ⟨e1,e2⟩|⟨gg,cc,cur,e1,_⟩
  ·exact ⟨none,0,by rw[e1,e2]⟩
  ·exact ⟨_,_,by rw[e1]⟩
 ·rw[e6,c6]
  rcases ru.row.2 with ⟨e1,e2⟩|⟨gg,cc,cur,e1,_⟩
  ·exact ⟨none,0,by rw[e1,e2]⟩
  ·exact ⟨_,_,by rw[e1]⟩
theorem nlen_set {R:Nat->List (List Value)}{l c:Nat}{cells:List Value}{v:Value}(hk:(R 2)[l]?= some cells)(k d:Nat)(h:k≠l\/d≠c):nlen (fun j=>if j=2 then (R 2).set l (cells.set c v) else R j) k d=nlen R k d:=by
 have hi:l < (R 2).length:=(List.getElem?_eq_some_iff.1 hk).1
 unfold nlen
 simp only[if_true]
 by_cases e:l=k
 ·subst e
  rw[List.getElem?_set_self hi,hk]
  simp only[Option.bind_some]
  rw[List.getElem?_set_ne Zo]
 ·rw[List.getElem?_set_ne e]
theorem nlen_set_self {R:Nat->List (List Value)}{l c:Nat}{cells:List Value}{v:Value}(hk:(R 2)[l]?= some cells)(hc:c < cells.length):nlen (fun j=>if j=2 then (R 2).set l (cells.set c v) else R j) l c=slen (some v):=by
 have hi:l < (R 2).length:=(List.getElem?_eq_some_iff.1 hk).1
 unfold nlen
 simp only[if_true]
 rw[List.getElem?_set_self hi]
 simp only[Option.bind_some]
 rw[List.getElem?_set_self hc]
theorem Sx.cut7 (h:Sx w0 wp tv w own R l P B lp rs wx own' V' R' s'){g cap:Nat}(hv2:V' 2= .slice (some ⟨g,0,none⟩) (l+1:Nat) cap):
  ∃va n1 vc,wx.cell? ⟨g,l*9+1+6,none⟩=some (.slice va n1 vc)/\wx.frozen? ⟨g,l*9+1+6,none⟩=false/\((va=none/\n1=0/\vc=0/\nlen R l 7=0)\/(∃g2,va=some ⟨g2,0,none⟩/\nlen R l 7<=vc))/\(∃R'',Sx w0 wp tv w own R l P B lp rs (wx.setCell ⟨g,l*9+1+6,none⟩ (.slice va (nlen R l 7) vc)) own' V' R'' s')/\Fr own' own' wx (wx.setCell ⟨g,l*9+1+6,none⟩ (.slice va (nlen R l 7) vc)):=by
 obtain ⟨g',cap',cells,hv,hnc,ho,hk,hcl,hL,hcc,hfz⟩:=h.ws.level (k:=l) (by rw[h.len];omega)
 have hg':g'=g:=Ze
 subst hg'
 obtain ⟨num,nam,ln,pr,vv,uv,nv,vls,us,ns,hcells,rv,ru,rn,hus,lv,lu,lnn⟩:=hL
 have e7:nlen R' l 7=ns.length:=by unfold nlen;rw[hk,hcells];exact rn.slen
 have m7:=(h.mono l (by rw[h.lenR];omega)).2.1
 have c7:wx.cell? ⟨g',l*9+1+6,none⟩=some nv:=by rw[show l*9+1+6=l*9+7 by omega,hcc 7 Zo,hcells];rfl
 have main:∀va n1 vc,nv= .slice va n1 vc->(∃R'',Sx w0 wp tv w own R l P B lp rs (wx.setCell ⟨g',l*9+1+6,none⟩ (.slice va (nlen R l 7) vc)) own' V' R'' s')/\Fr own' own' wx (wx.setCell ⟨g',l*9+1+6,none⟩ (.slice va (nlen R l 7) vc)):=by
  intro va n1 vc hnv
  rw[show l*9+1+6=l*9+7 by omega]
  obtain ⟨p1,p2⟩:=h.ws.setL (k:=l) (g:=g') (cap:=cap') (c:=7) (B':=B) (lp':=lp) (own':=own') (v:= .slice va (nlen R l 7) vc) hk hv Zo (Nat.le_refl _) (Onw.refl wx) none ⟨rfl,rfl,rfl,Nat.le_refl _,fun _ _ _=>rfl⟩ (fun x hx=>by cases hx) (fun _ _=>rfl) h.ws.wk.high (fun _ _=>rfl)
   (by
    rw[hcells]
    have K:∀{id e z v els},RowAt wx w0.heap.size own' id e z v els->id≠3->RowAt (wx.setCell ⟨g',l*9+7,none⟩ (.slice va (nlen R l 7) vc)) w0.heap.size own' id e z v els:=fun r hne=>r.kept (p:=fun y=>y≠g') (fun y hy=>ksc wx g' (l*9+7) _ y hy) (fun y hy e=>by have:=r.mine y hy;rw[e,ho] at this;exact hne this.symm) (fun _ _=>rfl)
    rw[hnv] at rn
    exact ⟨num,nam,ln,pr,vv,uv,_,vls,us,ns.take (nlen R l 7),by simp,K rv Zo,K ru Zo,RowAt.take (K rn Zo) Zo,hus,lv,lu,by simp;omega⟩)
  refine ⟨⟨_,h.step p1 p2 (h.at_.rows (fun j h2 _=>if_neg h2)) J269 (fun k hk'=>?_)⟩,p2⟩
  have m:=h.mono k hk'
  have e6:=nlen_set (c:=7) (v:= .slice va (nlen R l 7) vc) hk k 6 (Or.inr Zo)
  rw[e6]
  refine ⟨m.1,?_,m.2.2⟩
  by_cases ek:k=l
  ·exact J208
  ·rw[nlen_set hk k 7 (Or.inl ek)];exact m.2.1
 rcases rn.row.2 with ⟨e1,e2⟩|⟨gg,cc,cur,e1,_,_,e3,_⟩
 ·exact ⟨none,0,0,by rw[c7,e1],hfz _,Or.inl ⟨rfl,rfl,rfl,by omega⟩,main _ _ _ e1⟩
 ·exact ⟨_,_,_,by rw[c7,e1],hfz _,Or.inr ⟨gg,rfl,by omega⟩,main _ _ _ e1⟩
theorem Sx.cut6 (h:Sx w0 wp tv w own R l P B lp rs wx own' V' R' s'){g cap:Nat}(hv2:V' 2= .slice (some ⟨g,0,none⟩) (l+1:Nat) cap):
  ∃va n1 vc,wx.cell? ⟨g,l*9+1+5,none⟩=some (.slice va n1 vc)/\wx.frozen? ⟨g,l*9+1+5,none⟩=false/\((va=none/\n1=0/\vc=0/\nlen R l 6=0)\/(∃g2,va=some ⟨g2,0,none⟩/\nlen R l 6<=vc))/\(∃R'',Sx w0 wp tv w own R l P B lp rs (wx.setCell ⟨g,l*9+1+5,none⟩ (.slice va (nlen R l 6) vc)) own' V' R'' s')/\Fr own' own' wx (wx.setCell ⟨g,l*9+1+5,none⟩ (.slice va (nlen R l 6) vc)):=by
 obtain ⟨g',cap',cells,hv,hnc,ho,hk,hcl,hL,hcc,hfz⟩:=h.ws.level (k:=l) (by rw[h.len];omega)
 have hg':g'=g:=Ze
 subst hg'
 obtain ⟨num,nam,ln,pr,vv,uv,nv,vls,us,ns,hcells,rv,ru,rn,hus,lv,lu,lnn⟩:=hL
 have e6:nlen R' l 6=us.length:=by unfold nlen;rw[hk,hcells];exact ru.slen
 have m6:=(h.mono l (by rw[h.lenR];omega)).1
 have c6:wx.cell? ⟨g',l*9+1+5,none⟩=some uv:=by rw[show l*9+1+5=l*9+6 by omega,hcc 6 Zo,hcells];rfl
 have main:∀va n1 vc,uv= .slice va n1 vc->(∃R'',Sx w0 wp tv w own R l P B lp rs (wx.setCell ⟨g',l*9+1+5,none⟩ (.slice va (nlen R l 6) vc)) own' V' R'' s')/\Fr own' own' wx (wx.setCell ⟨g',l*9+1+5,none⟩ (.slice va (nlen R l 6) vc)):=by
  intro va n1 vc hnv
  rw[show l*9+1+5=l*9+6 by omega]
  obtain ⟨p1,p2⟩:=h.ws.setL (k:=l) (g:=g') (cap:=cap') (c:=6) (B':=B) (lp':=lp) (own':=own') (v:= .slice va (nlen R l 6) vc) hk hv Zo (Nat.le_refl _) (Onw.refl wx) none ⟨rfl,rfl,rfl,Nat.le_refl _,fun _ _ _=>rfl⟩ (fun x hx=>by cases hx) (fun _ _=>rfl) h.ws.wk.high (fun _ _=>rfl)
   (by
    rw[hcells]
    have K:∀{id e z v els},RowAt wx w0.heap.size own' id e z v els->id≠3->RowAt (wx.setCell ⟨g',l*9+6,none⟩ (.slice va (nlen R l 6) vc)) w0.heap.size own' id e z v els:=fun r hne=>r.kept (p:=fun y=>y≠g') (fun y hy=>ksc wx g' (l*9+6) _ y hy) (fun y hy e=>by have:=r.mine y hy;rw[e,ho] at this;exact hne this.symm) (fun _ _=>rfl)
    rw[hnv] at ru
    exact ⟨num,nam,ln,pr,vv,_,nv,vls,us.take (nlen R l 6),ns,by simp,K rv Zo,RowAt.take (K ru Zo) Zo,K rn Zo,fun x hx=>hus x (List.mem_of_mem_take hx),lv,by simp;omega,lnn⟩)
  refine ⟨⟨_,h.step p1 p2 (h.at_.rows (fun j h2 _=>if_neg h2)) J269 (fun k hk'=>?_)⟩,p2⟩
  have m:=h.mono k hk'
  have e7:=nlen_set (c:=6) (v:= .slice va (nlen R l 6) vc) hk k 7 (Or.inr Zo)
  rw[e7]
  refine ⟨?_,m.2.1,m.2.2⟩
  by_cases ek:k=l
  ·exact J208
  ·rw[nlen_set hk k 6 (Or.inl ek)];exact m.1
 rcases ru.row.2 with ⟨e1,e2⟩|⟨gg,cc,cur,e1,_,_,e3,_⟩
 ·exact ⟨none,0,0,by rw[c6,e1],hfz _,Or.inl ⟨rfl,rfl,rfl,by omega⟩,main _ _ _ e1⟩
 ·exact ⟨_,_,_,by rw[c6,e1],hfz _,Or.inr ⟨gg,rfl,by omega⟩,main _ _ _ e1⟩
end Go.Proofs.YtlibofjbhhdjdaaGreat
namespace Go.Proofs.YtlibofjbhhdjdaaGreat
open Go.RowKit
theorem info_const:(Tryz.prog.info? 157).map (fun i=>(i.zero,i.size,i.bytes))=some (some (.agg #[.int .i64 0,.int .i64 0,.int .i64 0,.int .i64 0,.float .f64 0,.string ByteArray.empty,.int .i64 0]),7,64):=by kernel_rfl
theorem St.At.const {s:St}{R:Nat->List (List Value)}(h:s.At R)(i:Nat)(c:CV):(s.const i c).At (pushR R 5 [.int .i64 i,.int .i64 c.code,.int .i64 c.kind,.int .i64 c.num,.float .f64 c.flt,.string c.str,.int .i64 c.ref]):=
 ⟨h.r1,h.r4,congrArg (·++_) h.r5,h.r6,h.r7,h.r8,h.r9,h.r10,h.r11⟩
theorem St.At.shade {s:St}{R:Nat->List (List Value)}(h:s.At R)(l i place:Nat)(name:ByteArray):(s.shade l i place name).At (noteR R (shadowB (scF s.sc) s.sc.length (l+1) i name) [.int .i64 i,.int .i64 place,.int .i64 3]):=by
 unfold St.shade noteR
 cases shadowB (scF s.sc) s.sc.length (l+1) i name
 ·exact h
 ·exact h.note _ _ _
variable {w0 : World} {wp : Nat} {tv : Value} {w : World} {own : Nat -> Nat} {R : Nat -> List (List Value)} {l : Nat} {P : Array Value} {B : Nat} {lp : Nat -> Int} {rs : Nat -> Bool} {wx : World} {own' : Nat -> Nat} {V' : Nat -> Value} {R' : Nat -> List (List Value)} {s' : St}
theorem Sx.push (h:Sx w0 wp tv w own R l P B lp rs wx own' V' R' s'){j:Nat}(j1:1<=j)(j2:j<=11)(jn:j≠2)(j3:j≠3){x:List Value}{g cap:Nat}(hx:x.length=rowZ j){w1 w2:World}(hw1:Onw wx w1)(hown:w2.ownsRow w0.heap.size (rowT j) (rowZ j) (.slice (some ⟨g,0,none⟩) ((R' j).length+1:Nat) cap) ((R' j).length+1) ((R' j).flatten++x))(hgrow:w1.grownBy w2 (V' j).ownBlock)(hwhere:(V' j).ownBlock=some g\/w1.heap.size<=g){s2:St}(ha:s2.At (pushR R' j x)):
  ∃own2 V2,Sx w0 wp tv w own R l P (B+1) lp rs (w2.setCell ⟨wp,j,none⟩ (.slice (some ⟨g,0,none⟩) ((R' j).length+1:Nat) cap)) own2 V2 (pushR R' j x) s2/\Fr own' own2 wx (w2.setCell ⟨wp,j,none⟩ (.slice (some ⟨g,0,none⟩) ((R' j).length+1:Nat) cap)):=by
 obtain ⟨p1,p2⟩:=h.ws.push j1 j2 jn hx hw1 hown hgrow hwhere
 refine ⟨_,_,h.step p1 p2 ha (by show (if 2=j then _ else R' 2).length=_;rw[if_neg (by omega)]) (fun k hk=>?_),p2⟩
 have m:=h.mono k hk
 unfold nlen at m ⊢
 have e2:pushR R' j x 2=R' 2:=if_neg Zo
 have e3:pushR R' j x 3=R' 3:=if_neg Zo
 rw[e2,e3];exact m
theorem Sx.grown (h:Sx w0 wp tv w own R l P B lp rs wx own' V' R' s'){j:Nat}(j1:1<=j)(j2:j<=11){w1 w2:World}(hw1:Onw wx w1)(hgrow:w1.grownBy w2 (V' j).ownBlock):
  Blk w2 w.heap.size 67 P/\Blk w2 wp 51 #[tv,V' 1,V' 2,V' 3,V' 4,V' 5,V' 6,V' 7,V' 8,V' 9,V' 10,V' 11]/\(∀{b o:Nat} {v:Value},w0.cell? ⟨b,o,none⟩=some v->w2.cell? ⟨b,o,none⟩=some v)/\∀{kx:Nat} {X:Array Value},Xb w wx own' kx X->Blk w2 kx 157 X:=by
 have r:=h.ws.wk.rows j j1 j2
 have z1:=hw1.size
 refine ⟨?_,?_,fun {b o v} hc=>?_,fun {kx X} x=>?_⟩
 ·have:=h.pb.lt
  exact (hgrow.block _ Zo (fun e=>by have:=r.mine _ e.symm;rw[h.op] at this;omega)).trans (h.pb.onw hw1)
 ·have:=h.ws.blk.lt
  exact (hgrow.block _ Zo (fun e=>h.ws.ne j1 j2 e.symm)).trans (h.ws.blk.onw hw1)
 ·exact hgrow.cell (con (h.ws.wk.ov.trans hw1) hc) (fun e=>by have h1:=(r.row.lt _ e.symm).1;have h2:=clt hc;simp only at h1;omega)
 ·have:=x.xb.lt
  exact (hgrow.block _ Zo (fun e=>by have:=r.mine _ e.symm;rw[x.ox] at this;omega)).trans (x.xb.onw hw1)
theorem Sx.toS (h:Sx w0 wp tv w own R l P B lp rs wx own' V' R' s'){B2:Nat}(hB:B<=B2){Q:St->Prop}(hQ:Q s'):PostS w0 wp tv own w R B2 lp rs wx Q:=⟨own',V',R',s',h.ws.more hB,h.fr,h.at_,h.len.trans h.lenR.symm,h.mono,hQ⟩
theorem vok_cvOf {c:CV}(h:Vok c.num c.str):Vok (cvOf c).num (cvOf c).str:=by
 unfold cvOf
 cases cvOk c
 ·exact Vok.zero
 ·exact h
theorem constS_adds (i:Nat)(name:ByteArray)(l:Nat)(c:CV)(s s1:St)(e:s1.sc=s.sc)(hv:Vok c.num c.str):Adds s (constS i name l c s1) l:=by
 refine ⟨[constN i name l (cvOf c)],?_,fun x hx=>by rw[List.mem_singleton.1 hx];exact ⟨rfl,vok_cvOf hv⟩⟩
 show ((St.shade (bif cvOk c then s1 else s1.fault 6 i) l i 0 name).sc++_)=_
 have h1:(bif cvOk c then s1 else s1.fault 6 i).sc=s.sc:=by cases cvOk c <;> exact e
 have h2:(St.shade (bif cvOk c then s1 else s1.fault 6 i) l i 0 name).sc=s.sc:=by
  exact J155
 rw[h2]
end Go.Proofs.YtlibofjbhhdjdaaGreat
namespace Go.Proofs.YtlibofjbhhdjdaaGreat
open Go.RowKit
attribute [local go_sem] rsf
theorem constant_ws {w0 : World}{wp : Nat}{tv : Value}{FX : List SNm -> Nat -> CV -> Prop}{sz : Nat -> Nat}{np : Nat}{pm : Nat -> PM}(tr : Tr w0 tv np pm sz){i : Nat}(hi : i < np)(hk : (pm i).kind = 3)(hnk : (pm i).nk = 1)(hnn : (pm i).nn = 1)(fx : FixOk w0 wp tv np FX)(hex : ExprOk w0 wp tv (pdOf pm) FX sz ((pm i).kd 0).toNat)(w : World)(own : Nat -> Nat)(V : Nat -> Value)(R : Nat -> List (List Value))(B : Nat)(lp : Nat -> Int)(rs : Nat -> Bool)(l : Nat)(s : St)(h : Ws w0 w wp tv own V R B lp rs)(hl : (R 2).length = l + 1)(hs : s.At R)(hf : SFn s l)(hB : B + 4000 * sz i <= 16000000)(hll : l + i <= 3000)(hlp : 0 <= lp l /\ lp l + (i : Int) <= 3000):
    Calls Tryz.prog 61 #[.pointer (some ⟨wp, 0, none⟩), .int .i64 i] w fun e w' => e = .returned (.tuple #[]) /\ PostS w0 wp tv own w R (B + 4000 * sz i) lp rs w' (fun s' => Rel (pdOf pm) FX l (lp l) (rs l) i s s' /\ Adds s s' l) := by
  obtain ⟨pa, pc, htv, ha⟩ := tr.at_
  obtain ⟨pb, po, hpa, hpc⟩ := ha.1 Zo
  obtain ⟨c0, c1, c2, c3, c4, c5, c6, c7, c8, c9⟩ := (hpc i hi).onw h.wk.ov
  have zc := clt c0
  have b0 : w.cell? ⟨wp, 0, none⟩ = some (.slice (some ⟨pb, po, none⟩) np pc) := Zi
  have zb := h.blk.lt
  have i0 : (0 : Int) <= (i : Int) := Zo
  have i1 : (i : Int) < (np : Int) := Zo
  have szi := tr.szs i hi
  have nk2 := tr.nkl i hi
  have nn2 := tr.nnl i hi
  have HH : Hid _ := h
  have HL : Hid _ := hl
  have HS : Hid _ := hs
  have HF : Hid _ := hf
  have HT : Hid _ := tr
  have HA : Hid _ := ha
  have HTV : Hid _ := htv
  have HP : Hid _ := hpc
  have HKK : Hid _ := hk
  obtain ⟨eb, eo, heb, hec⟩ := (ha.2 i hi).2 Zo
  rw [heb] at c9
  obtain ⟨a0, ha0⟩ : ∃ a : Nat, (pm i).kd 0 = a := ⟨((pm i).kd 0).toNat, by have := (tr.kid i hi 0 Zo).1; omega⟩
  have l0 : a0 < i := by have := (tr.kid i hi 0 Zo).2; omega
  have Y0 : Hid (w0.cell? ⟨eb, eo + 0, none⟩ = some (.int .i64 a0)) := by have := hec 0 Zo; rw [ha0] at this; exact this
  have A0 : Hid ((pm i).kd 0 = a0) := ha0
  have hsz : sz a0 + 1 <= sz i := by
    exact J102
  have HNK : Hid _ := hnk
  obtain ⟨nb, no, hnb, hnc⟩ := (ha.2 i hi).1 Zo
  rw [hnb] at c8
  have NY : Hid (w0.cell? ⟨nb, no, none⟩ = some (.string ((pm i).nm 0))) := by have := hnc 0 Zo; exact this
  rw [ha0, show ((a0 : Int)).toNat = a0 from rfl] at hex
  have HE : Hid _ := hex
  have HFX : Hid _ := fx
  rw [hnk] at c9 nk2
  rw [hnn] at c8 nn2
  clear hex fx hec ha0 hnk heb hnb hnc hnn
  clear h hl hs hf tr ha hpc htv hk
  go_enter Tryz.func61, Tryz.ntmps61
  go_wp2_with fail
  have SX : Hid (Sx w0 wp tv w own R l #[.int .i64 (pm i).kind, .int .i64 (pm i).frm, .int .i64 (pm i).tto, .int .i64 (pm i).line, .int .i64 (pm i).op, .int .i64 (pm i).num, .float .f64 (pm i).flt, .string (pm i).text, .slice (some ⟨nb, no, none⟩) 1 (pm i).nc, .slice (some ⟨eb, eo, none⟩) 1 (pm i).kc] B lp rs _ own V R s) := Sx.start HH.out HL.out HS.out #[.int .i64 (pm i).kind, .int .i64 (pm i).frm, .int .i64 (pm i).tto, .int .i64 (pm i).line, .int .i64 (pm i).op, .int .i64 (pm i).num, .float .f64 (pm i).flt, .string (pm i).text, .slice (some ⟨nb, no, none⟩) 1 (pm i).nc, .slice (some ⟨eb, eo, none⟩) 1 (pm i).kc]
  generalize w.alloc (Obj.cells #[.int .i64 (pm i).kind, .int .i64 (pm i).frm, .int .i64 (pm i).tto, .int .i64 (pm i).line, .int .i64 (pm i).op, .int .i64 (pm i).num, .float .f64 (pm i).flt, .string (pm i).text, .slice (some ⟨nb, no, none⟩) 1 (pm i).nc, .slice (some ⟨eb, eo, none⟩) 1 (pm i).kc] 67) = wK at *
  clear zc b0 zb c0 c1 c2 c3 c4 c5 c6 c7 c8 c9
  obtain ⟨g, cap, hv2, hcall⟩ := fn_wk SX.out.ws.wk l SX.out.len Zo
  obtain ⟨⟨va7, vc7, t7⟩, ⟨va6, vc6, t6⟩, bn7, bn6⟩ := SX.out.ws.tops SX.out.len hv2
  refine hcall.mono ?_
  rintro e w1 ⟨rfl, o1⟩
  have S1 : Hid _ := SX.out.onw o1
  have t71 := con o1 t7
  have z71 := clt t71
  have t61 := con o1 t6
  clear hcall t7 t6 o1
  go_wp2_with fail
  obtain ⟨g', cap', hv2', hcall⟩ := fn_wk S1.out.ws.wk l S1.out.len Zo
  have hg' : g' = g := by rw [hv2] at hv2'; simp only [Value.slice.injEq, Option.some.injEq, Addr.mk.injEq, and_true] at hv2'; exact hv2'.1.symm
  subst hg'
  refine hcall.mono ?_
  rintro e w2 ⟨rfl, o2⟩
  have S2 : Hid _ := S1.out.onw o2
  have t62 := con o2 t61
  have z62 := clt t62
  clear hcall t61 t71 z71 o2 hv2 hv2'
  have p9 := Blk.at_ S2.out.pb 9 rfl
  have pz := Blk.lt S2.out.pb
  have y0 : w2.cell? ⟨eb, eo, none⟩ = some (.int .i64 a0) := con S2.out.ws.wk.ov Y0.out
  have zy0 := clt y0
  go_wp2_with fail
  clear p9 pz y0 zy0 t62 z62
  refine (HFX.out w2 own V R B lp rs s l a0 S2.out.ws S2.out.at_ HF.out Zo Zo).mono ?_
  rintro e w3 ⟨c, rfl, fx3, vk3, o3⟩
  have VKC : Hid (Vok c.num c.str) := vk3
  clear vk3
  have FXC : Hid _ := fx3
  have S3 : Hid _ := (S2.out.onw o3).onw (Onw.alloc w3 (.cells #[.int .i64 a0, .int .i64 c.code, .int .i64 c.kind, .int .i64 c.num, .float .f64 c.flt, .string c.str, .int .i64 c.ref] 157))
  have X3 : Hid (Xb w (w3.alloc (.cells #[.int .i64 a0, .int .i64 c.code, .int .i64 c.kind, .int .i64 c.num, .float .f64 c.flt, .string c.str, .int .i64 c.ref] 157)) own w3.heap.size #[.int .i64 a0, .int .i64 c.code, .int .i64 c.kind, .int .i64 c.num, .float .f64 c.flt, .string c.str, .int .i64 c.ref]) := ⟨Blk.new w3 _ _, (S2.out.onw o3).ws.wk.high _ (Nat.le_refl _), (S2.out.onw o3).pb.lt⟩
  have PB3 : Hid _ := (S2.out.onw o3).pb
  have OV3 : Hid _ := (S2.out.onw o3).ws.wk.ov
  clear o3 fx3
  have p9 := Blk.at_ PB3.out 9 rfl
  have pz := Blk.lt PB3.out
  have y0 : w3.cell? ⟨eb, eo, none⟩ = some (.int .i64 a0) := con OV3.out Y0.out
  have zy0 := clt y0
  go_wp2_with fail
  clear p9 pz y0 zy0 PB3 OV3
  generalize w3.alloc (.cells #[.int .i64 a0, .int .i64 c.code, .int .i64 c.kind, .int .i64 c.num, .float .f64 c.flt, .string c.str, .int .i64 c.ref] 157) = wX at *
  generalize w3.heap.size = kx at *
  refine (HE.out _ own V R B lp rs l s S3.out.ws S3.out.len S3.out.at_ HF.out Zo Zo ⟨hlp.1, by have := hlp.2; omega⟩).mono ?_
  rintro e w4 ⟨xr, hxr, rfl, hp⟩
  obtain ⟨own4, V4, R4, s4, h4, ⟨q4, e4⟩, f4⟩ := S3.out.postS hp
  have S4 : Hid _ := h4
  have Q4 : Hid _ := q4
  have E4 : Hid _ := e4
  have X4 : Hid _ := X3.out.fr f4
  clear hp h4 q4 e4 f4
  go_wp2_with fail
  obtain ⟨g5, cap5, hv5, hcall⟩ := fn_wk S4.out.ws.wk l S4.out.len Zo
  refine hcall.mono ?_
  rintro e w5 ⟨rfl, o5⟩
  have S5 : Hid _ := S4.out.onw o5
  have X5 : Hid _ := X4.out.fr (Fr.onw o5)
  have HV5 : Hid _ := hv5
  clear hcall o5 hv5
  obtain ⟨ua, un, uc, u1, u2, u3, u4, u5⟩ := S5.out.cut7 HV5.out
  have U4 : Hid _ := u4
  have U5 : Hid _ := u5
  have bn7' : nlen R l 7 <= B := bn7
  clear u4 u5
  have zu := clt u1
  go_upto_region 6 with (fail)
  go_cut [] (fun wd => ∃ R6, Sx w0 wp tv w own R l #[.int .i64 (pm i).kind, .int .i64 (pm i).frm, .int .i64 (pm i).tto, .int .i64 (pm i).line, .int .i64 (pm i).op, .int .i64 (pm i).num, .float .f64 (pm i).flt, .string (pm i).text, .slice (some ⟨nb, no, none⟩) 1 (pm i).nc, .slice (some ⟨eb, eo, none⟩) 1 (pm i).kc] (B + 4000 * sz a0) lp rs wd own4 V4 R6 s4 /\ Xb w wd own4 kx #[.int .i64 a0, .int .i64 c.code, .int .i64 c.kind, .int .i64 c.num, .float .f64 c.flt, .string c.str, .int .i64 c.ref])
  case first =>
    have m0 : (0 : Int) <= (nlen R l 7 : Int) := Zo
    have m1 : (nlen R l 7 : Int) <= (uc : Int) := by rcases u3 with ⟨_, _, h1, h2⟩ | ⟨_, _, h1⟩ <;> omega
    clear u3
    go_wp2_with fail
    go_meet
    case rel =>
      obtain ⟨R6, h6⟩ := U4.out
      exact ⟨R6, h6, X5.out.fr U5.out⟩
  case rest =>
    obtain ⟨R6, h6, x6⟩ := hcut
    have S6 : Hid _ := h6
    have X6 : Hid _ := x6
    clear h6 x6 u1 u2 u3 zu
    obtain ⟨wd, hwd⟩ : ∃ y, y = wc := ⟨_, rfl⟩
    subst hwd
    obtain ⟨ua6, un6, uc6, u1, u2, u3, u4, u5⟩ := S6.out.cut6 HV5.out
    have U4' : Hid _ := u4
    have U5' : Hid _ := u5
    clear u4 u5
    have zu := clt u1
    go_upto_region 7 with (fail)
    go_cut [] (fun wd => ∃ R7, Sx w0 wp tv w own R l #[.int .i64 (pm i).kind, .int .i64 (pm i).frm, .int .i64 (pm i).tto, .int .i64 (pm i).line, .int .i64 (pm i).op, .int .i64 (pm i).num, .float .f64 (pm i).flt, .string (pm i).text, .slice (some ⟨nb, no, none⟩) 1 (pm i).nc, .slice (some ⟨eb, eo, none⟩) 1 (pm i).kc] (B + 4000 * sz a0) lp rs wd own4 V4 R7 s4 /\ Xb w wd own4 kx #[.int .i64 a0, .int .i64 c.code, .int .i64 c.kind, .int .i64 c.num, .float .f64 c.flt, .string c.str, .int .i64 c.ref])
    case first =>
      have m0 : (0 : Int) <= (nlen R l 6 : Int) := Zo
      have m1 : (nlen R l 6 : Int) <= (uc6 : Int) := by rcases u3 with ⟨_, _, h1, h2⟩ | ⟨_, _, h1⟩ <;> omega
      clear u3
      go_wp2_with fail
      go_meet
      case rel =>
        obtain ⟨R7, h7⟩ := U4'.out
        exact ⟨R7, h7, X6.out.fr U5'.out⟩
    case rest =>
      obtain ⟨R7, h7, x7⟩ := hcut
      have S7 : Hid _ := h7
      have X7 : Hid _ := x7
      clear h7 x7 u1 u2 u3 zu
      obtain ⟨we, hwe⟩ : ∃ y, y = wc := ⟨_, rfl⟩
      subst hwe
      have x1 := Blk.at_ X7.out.xb 1 rfl
      have x2 := Blk.at_ X7.out.xb 2 rfl
      have x3 := Blk.at_ X7.out.xb 3 rfl
      have x4 := Blk.at_ X7.out.xb 4 rfl
      have x5 := Blk.at_ X7.out.xb 5 rfl
      have x6 := Blk.at_ X7.out.xb 6 rfl
      have xf := Blk.free X7.out.xb
      have xz := Blk.lt X7.out.xb
      go_wp2_with fail
      refine (literal_any c.kind c.num c.flt c.str c.ref we).mono ?_
      rintro e w8 ⟨m8, b8, rfl, hb8, o8⟩
      have S8 : Hid _ := (S7.out.onw o8).onw (Onw.alloc w8 (.cells #[.int .i64 m8.kind, .int .i64 m8.line, .int .i64 m8.op, .int .i64 m8.num, .float .f64 m8.flt, .string m8.str, .slice m8.ra m8.nr m8.rc, .slice m8.ka m8.nk m8.kc] 97))
      have X8 : Hid _ := (X7.out.fr (Fr.onw o8)).fr (Fr.onw (Onw.alloc w8 (.cells #[.int .i64 m8.kind, .int .i64 m8.line, .int .i64 m8.op, .int .i64 m8.num, .float .f64 m8.flt, .string m8.str, .slice m8.ra m8.nr m8.rc, .slice m8.ka m8.nk m8.kc] 97)))
      have HB8 : Hid _ := hb8
      clear o8 hb8 x1 x2 x3 x4 x5 x6 xf xz
      go_upto_region 9 with (fail)
      generalize w8.alloc (.cells #[.int .i64 m8.kind, .int .i64 m8.line, .int .i64 m8.op, .int .i64 m8.num, .float .f64 m8.flt, .string m8.str, .slice m8.ra m8.nr m8.rc, .slice m8.ka m8.nk m8.kc] 97) = wF at *
      have x1 := Blk.at_ X8.out.xb 1 rfl
      have x2 := Blk.at_ X8.out.xb 2 rfl
      have x3 := Blk.at_ X8.out.xb 3 rfl
      have x4 := Blk.at_ X8.out.xb 4 rfl
      have x5 := Blk.at_ X8.out.xb 5 rfl
      have x6 := Blk.at_ X8.out.xb 6 rfl
      have xf := Blk.free X8.out.xb
      have xz := Blk.lt X8.out.xb
      have okE : Hid (cvOk c = ((c.code == 0) && b8)) := by show _ = _; unfold cvOk; rw [HB8.out]
      go_cut [81] (fun tv wd => tv = .bool (!(cvOk c)) /\ wd = wF)
      case first =>
        by_cases hc : c.code = 0
        · have oo : Hid ((!(cvOk c)) = !b8) := by show _ = _; rw [okE.out, show (c.code == 0) = true from by rw [hc]; rfl]; simp
          exact J175
        · have oo : Hid ((!(cvOk c)) = true) := by show _ = _; rw [okE.out, show (c.code == 0) = false from by rw [beq_eq_false_iff_ne]; exact hc]; simp
          exact J175
      case rest =>
       obtain ⟨rfl, rfl⟩ := hcut
       obtain ⟨wF, hwF⟩ : ∃ y, y = wc := ⟨_, rfl⟩
       subst hwF
       go_upto_if 81 with (fail)
       go_cut [] (fun wd => ∃ (own9 : Nat -> Nat) (V9 : Nat -> Value) (R9 : Nat -> List (List Value)), Sx w0 wp tv w own R l #[.int .i64 (pm i).kind, .int .i64 (pm i).frm, .int .i64 (pm i).tto, .int .i64 (pm i).line, .int .i64 (pm i).op, .int .i64 (pm i).num, .float .f64 (pm i).flt, .string (pm i).text, .slice (some ⟨nb, no, none⟩) 1 (pm i).nc, .slice (some ⟨eb, eo, none⟩) 1 (pm i).kc] (B + 4000 * sz a0 + 1) lp rs wd own9 V9 R9 (bif cvOk c then s4 else s4.fault 6 i) /\ Xb w wd own9 kx #[.int .i64 a0, .int .i64 (cvOf c).code, .int .i64 (cvOf c).kind, .int .i64 (cvOf c).num, .float .f64 (cvOf c).flt, .string (cvOf c).str, .int .i64 (cvOf c).ref])
       case first =>
         cases ho : cvOk c
         · go_wp2_with fail
           obtain ⟨a1, z1⟩ := S8.out.setX X8.out 1 (.int .i64 1)
           obtain ⟨a2, z2⟩ := a1.setX z1 2 (.int .i64 0)
           obtain ⟨a3, z3⟩ := a2.setX z2 3 (.int .i64 0)
           obtain ⟨a4, z4⟩ := a3.setX z3 4 (.float .f64 0)
           obtain ⟨a5, z5⟩ := a4.setX z4 5 (.string { data := #[] })
           obtain ⟨a6, z6⟩ := a5.setX z5 6 (.int .i64 0)
           simp only [List.setIfInBounds_toArray, List.set_cons_zero, List.set_cons_succ] at z6
           have SA : Hid _ := a6
           have XA : Hid _ := z6
           clear a1 z1 a2 z2 a3 z3 a4 z4 a5 z5 a6 z6 x1 x2 x3 x4 x5 x6 xf xz
           refine (fault_ws SA.out.ws Zo 6 i).mono ?_
           rintro e w9 ⟨rfl, hp⟩
           obtain ⟨own9, V9, R9, s9, h9, e9, f9⟩ := SA.out.postS (hp.toS (P := fun s' => s' = s4.fault 6 i) (SA.out.at_.fault 6 i) rfl rfl)
           subst e9
           have S9 : Hid _ := h9
           have X9 : Hid _ := XA.out.fr f9
           clear hp h9 f9
           go_wp2_with fail
           go_meet
           case rel =>
             rw [show cvOf c = cvBad by unfold cvOf; rw [ho]; rfl, ho]
             exact ⟨own9, V9, R9, S9.out, X9.out⟩
         · go_wp2_with fail
           go_meet
           case rel =>
             rw [show cvOf c = c by unfold cvOf; rw [ho]; rfl, ho]
             exact ⟨own4, V4, R7, S8.out.more Zo, X8.out⟩
       case rest =>
         obtain ⟨own9, V9, R9, h9, x9⟩ := hcut
         obtain ⟨cc, hcc⟩ : ∃ y, y = cvOf c := ⟨_, rfl⟩
         obtain ⟨s9, hs9⟩ : ∃ y, y = bif cvOk c then s4 else s4.fault 6 i := ⟨_, rfl⟩
         rw [<- hcc] at x9
         rw [<- hs9] at h9
         have HCC : Hid _ := hcc
         have HS9 : Hid _ := hs9
         have S9 : Hid _ := h9
         have X9 : Hid _ := x9
         clear h9 x9 hcc hs9  x1 x2 x3 x4 x5 x6 xf xz
         obtain ⟨wg, hwg⟩ : ∃ y, y = wc := ⟨_, rfl⟩
         subst hwg
         have p8 := Blk.at_ S9.out.pb 8 rfl
         have pz := Blk.lt S9.out.pb
         have m0 : wg.cell? ⟨nb, no, none⟩ = some (.string ((pm i).nm 0)) := con S9.out.ws.wk.ov NY.out
         have zm0 := clt m0
         go_wp2_with fail
         clear p8 pz m0 zm0
         refine (shadow_ws S9.out.ws Zo S9.out.at_.scope (l := l) S9.out.len i 0 ((pm i).nm 0)).mono ?_
         rintro e w10 ⟨rfl, hp⟩
         obtain ⟨own10, V10, R10, s10, h10, e10, f10⟩ := S9.out.postS (hp.toS (P := fun s' => s' = s9.shade l i 0 ((pm i).nm 0)) (S9.out.at_.shade l i 0 ((pm i).nm 0)) (by unfold noteR; cases shadowB (scF s9.sc) s9.sc.length (l + 1) i ((pm i).nm 0) <;> rfl) rfl (by unfold noteR; cases shadowB (scF s9.sc) s9.sc.length (l + 1) i ((pm i).nm 0) <;> rfl))
         subst e10
         have S10 : Hid _ := h10
         have X10 : Hid _ := X9.out.fr f10
         clear hp h10 f10
         obtain ⟨i3, hi3, hz0, hz1, hz2⟩ := info_parts info_decl
         have hx11 : w10.ownsRow w0.heap.size 151 2 (V10 11) (R10 11).length (R10 11).flatten := (S10.out.ws.wk.rows 11 Zo Zo).row
         have hlen := S10.out.ws.lens 11 Zo Zo
         have b11 := Blk.at_ S10.out.ws.blk 11 rfl
         have bf := S10.out.ws.blk.free
         have zb := S10.out.ws.blk.lt
         have hlo := S10.out.ws.wk.ov.size
         have N := Blk.new w10 151 #[.int .i64 i, .int .i64 0]
         go_upto_region 15 with (first | (at_builtin; refine wpList_app _ rfl (.tmp 99) (.tmp 102) 47 rfl w0.heap.size 151 i3 _ 2 16 Tryz.underlying47 hi3 hz0 hz1 hz2 rfl Zb (V10 11) (R10 11).length (R10 11).flatten rfl (World.ownsRow.alloc hx11 _) ⟨w10.heap.size, 0, none⟩ 1 1 [.int .i64 i, .int .i64 0] rfl rfl (fun j u hj => by rw [Go.WideShapes.add_plain, N.cell, Nat.zero_add]; simpa using hj) J262 Zb Zm Zo Zj ?_; intro g3 cap3 w11 hown hgrow hwhere; have B2 := (S10.out.grown (j := 11) Zo Zo (Onw.alloc _ _) hgrow).2.1; have bf2 := Blk.free B2; have b112 : w11.cell? ⟨wp, 11, none⟩ = some (V10 11) := (by rw [Blk.cell B2]; rfl); have zb2 := Blk.lt B2))
         obtain ⟨own11, V11, h11, f11⟩ := S10.out.push (j := 11) Zo Zo Zo Zo (x := [.int .i64 i, .int .i64 0]) rfl (Onw.alloc _ _) hown hgrow hwhere (S10.out.at_.decl i 0)
         have S11 : Hid _ := h11
         have X11 : Hid _ := X10.out.fr f11
         clear h11 f11 hown hgrow hwhere B2 bf2 b112 zb2 N hx11 hlen b11 bf zb hlo hi3 hz0 hz1 hz2
         generalize w11.setCell ⟨wp, 11, none⟩ (.slice (some ⟨g3, 0, none⟩) ((R10 11).length + 1 : Nat) cap3) = wG at *
         generalize pushR R10 11 [.int .i64 i, .int .i64 0] = R11 at *
         obtain ⟨s11, hs11⟩ : ∃ y, y = (s9.shade l i 0 ((pm i).nm 0)).decl i 0 := ⟨_, rfl⟩
         rw [<- hs11] at S11
         have SF : Hid (constS i ((pm i).nm 0) l c s4 = (s11.const i cc).name (constN i ((pm i).nm 0) l cc)) := by show _ = _; rw [hs11, HCC.out, HS9.out]; rfl
         have REL : Hid (Rel (pdOf pm) FX l (lp l) (rs l) i s ((s11.const i cc).name (constN i ((pm i).nm 0) l cc))) := by show Rel _ _ _ _ _ _ _ _; rw [<- SF.out]; exact relC.const HKK.out (by rw [show (pdOf pm i).kd 0 = (a0 : Int) from A0.out]; exact FXC.out) (by rw [show (pdOf pm i).kd 0 = (a0 : Int) from A0.out]; exact Q4.out)
         have ADD : Hid (Adds s ((s11.const i cc).name (constN i ((pm i).nm 0) l cc)) l) := by show Adds _ _ _; rw [<- SF.out]; exact constS_adds _ _ _ _ _ _ E4.out VKC.out
         clear hs11
         have x1 := Blk.at_ X11.out.xb 1 rfl
         have x2 := Blk.at_ X11.out.xb 2 rfl
         have x3 := Blk.at_ X11.out.xb 3 rfl
         have x4 := Blk.at_ X11.out.xb 4 rfl
         have x5 := Blk.at_ X11.out.xb 5 rfl
         have x6 := Blk.at_ X11.out.xb 6 rfl
         have xf := Blk.free X11.out.xb
         have xz := Blk.lt X11.out.xb
         obtain ⟨i4, hi4, hz0, hz1, hz2⟩ := info_parts info_const
         have hx5 : wG.ownsRow w0.heap.size 157 7 (V11 5) (R11 5).length (R11 5).flatten := (S11.out.ws.wk.rows 5 Zo Zo).row
         have hlen := S11.out.ws.lens 5 Zo Zo
         have b5 := Blk.at_ S11.out.ws.blk 5 rfl
         have bf := S11.out.ws.blk.free
         have zb := S11.out.ws.blk.lt
         have hlo := S11.out.ws.wk.ov.size
         have N2 := Blk.new wG.drew 157 #[.int .i64 i, .int .i64 cc.code, .int .i64 cc.kind, .int .i64 cc.num, .float .f64 cc.flt, .string cc.str, .int .i64 cc.ref]
         have kxw : kx ≠ wp := fun e => by have h1 := X11.out.ox; rw [e] at h1; have h2 := S11.out.ws.wk.wpo; omega
         have wkx : wp ≠ kx := Ne.symm kxw
         go_cut [] (fun wd => ∃ (own12 : Nat -> Nat) (V12 : Nat -> Value), Sx w0 wp tv w own R l #[.int .i64 (pm i).kind, .int .i64 (pm i).frm, .int .i64 (pm i).tto, .int .i64 (pm i).line, .int .i64 (pm i).op, .int .i64 (pm i).num, .float .f64 (pm i).flt, .string (pm i).text, .slice (some ⟨nb, no, none⟩) 1 (pm i).nc, .slice (some ⟨eb, eo, none⟩) 1 (pm i).kc] (B + 4000 * sz a0 + 1 + 1 + 1 + 1) lp rs wd own12 V12 (pushR R11 5 [.int .i64 i, .int .i64 cc.code, .int .i64 cc.kind, .int .i64 cc.num, .float .f64 cc.flt, .string cc.str, .int .i64 cc.ref]) (s11.const i cc) /\ Xb w wd own12 kx #[.int .i64 a0, .int .i64 cc.code, .int .i64 cc.kind, .int .i64 cc.num, .float .f64 cc.flt, .string cc.str, .int .i64 cc.ref])
         case first =>
           refine wp_region_held_drew (S := (fun (w' : World) => w'.cell? ⟨kx, 1, none⟩ = some (.int .i64 cc.code) /\ w'.cell? ⟨kx, 2, none⟩ = some (.int .i64 cc.kind) /\ w'.cell? ⟨kx, 3, none⟩ = some (.int .i64 cc.num) /\ w'.cell? ⟨kx, 4, none⟩ = some (.float .f64 cc.flt) /\ w'.cell? ⟨kx, 5, none⟩ = some (.string cc.str) /\ w'.cell? ⟨kx, 6, none⟩ = some (.int .i64 cc.ref))) (by kernel_rfl) J292 (fun hHeld => ?_)
           refine tk 0 ?_
           refine tk 1 ?_
           refine tk 2 ?_
           refine tk 3 ?_
           refine tk 5 ?_
           refine tk 6 ?_
           refine tk 7 ?_
           refine tk 8 ?_
           refine tk 9 ?_
           refine tk 10 ?_
           refine rd [4, 11] ?_
           refine AllReadyH.cons rfl (fun K hK => ?_) ?_
           · simp only [gA, gB, gC]
             go_simp
             refine hK.out _ _ J292 (fun hHeld => ?_)
             clear hK K
             try simp only [gA, gB, gC, Act.put, gD, gE, gF]
             refine rd [11] ?_
             exact J19
           refine AllReadyH.cons rfl (fun K hK => ?_) ?_
           · simp only [gA, gB, gC]
             go_simp
             refine hK.out _ _ J292 (fun hHeld => ?_)
             clear hK K
             try simp only [gA, gB, gC, Act.put, gD, gE, gF]
             refine rd [4] ?_
             exact J19
           exact AllReadyH.nil
         case rest =>
           obtain ⟨own13, V13, h13, x13⟩ := hcut
           have S13 : Hid _ := h13
           have X13 : Hid _ := x13
           clear h13 x13 hx5 hlen b5 bf zb hlo N2 hi4 hz0 hz1 hz2 x1 x2 x3 x4 x5 x6 xf xz
           obtain ⟨wh, hwh⟩ : ∃ y, y = wc := ⟨_, rfl⟩
           subst hwh
           generalize pushR R11 5 [.int .i64 i, .int .i64 cc.code, .int .i64 cc.kind, .int .i64 cc.num, .float .f64 cc.flt, .string cc.str, .int .i64 cc.ref] = R13 at *
           have x1 := Blk.at_ X13.out.xb 1 rfl
           have x2 := Blk.at_ X13.out.xb 2 rfl
           have x3 := Blk.at_ X13.out.xb 3 rfl
           have x4 := Blk.at_ X13.out.xb 4 rfl
           have x5 := Blk.at_ X13.out.xb 5 rfl
           have x6 := Blk.at_ X13.out.xb 6 rfl
           have xf := Blk.free X13.out.xb
           have xz := Blk.lt X13.out.xb
           obtain ⟨i4, hi4, hz0, hz1, hz2⟩ := info_parts info_l7name
           have hx5 : wh.ownsRow w0.heap.size 155 12 (V13 1) (R13 1).length (R13 1).flatten := (S13.out.ws.wk.rows 1 Zo Zo).row
           have hlen := S13.out.ws.lens 1 Zo Zo
           have b5 := Blk.at_ S13.out.ws.blk 1 rfl
           have bf := S13.out.ws.blk.free
           have zb := S13.out.ws.blk.lt
           have hlo := S13.out.ws.wk.ov.size
           have N2 := Blk.new wh.drew 155 #[.string ((pm i).nm 0), .int .i64 i, .int .i64 0, .int .i64 l, .bool true, .int .i64 cc.code, .int .i64 cc.kind, .int .i64 cc.num, .float .f64 cc.flt, .string cc.str, .int .i64 cc.ref, .int .i64 0]
           have p8 := Blk.at_ S13.out.pb 8 rfl
           have pz := Blk.lt S13.out.pb
           have m0 : wh.cell? ⟨nb, no, none⟩ = some (.string ((pm i).nm 0)) := con S13.out.ws.wk.ov NY.out
           have zm0 := clt m0
           obtain ⟨ga, capa, hva⟩ := S13.out.ws.fns S13.out.len
           have b2 : wh.cell? ⟨wp, 2, none⟩ = some (.slice (some ⟨ga, 0, none⟩) (l + 1 : Nat) capa) := by rw [S13.out.ws.blk.cell, <- hva]; rfl
           have HVA : Hid _ := hva
           have lq1 : l <= 16777216 := Zo
           clear hva
           have pw : w.heap.size ≠ wp := fun e => by have h1 := S13.out.op; rw [e] at h1; have h2 := S13.out.ws.wk.wpo; omega
           have nbw : nb ≠ wp := fun e => by have h1 := clt NY.out; have h2 := S13.out.ws.wk.wpb; omega
           go_upto_region 16 with (fail)
           refine wp_region_held_drew (S := (fun (w' : World) => w'.cell? ⟨w.heap.size, 8, none⟩ = some (.slice (some ⟨nb, no, none⟩) 1 (pm i).nc) /\ w'.cell? ⟨nb, no, none⟩ = some (.string ((pm i).nm 0)) /\ w'.cell? ⟨wp, 2, none⟩ = some (.slice (some ⟨ga, 0, none⟩) (l + 1 : Nat) capa) /\ w'.cell? ⟨kx, 1, none⟩ = some (.int .i64 cc.code) /\ w'.cell? ⟨kx, 2, none⟩ = some (.int .i64 cc.kind) /\ w'.cell? ⟨kx, 3, none⟩ = some (.int .i64 cc.num) /\ w'.cell? ⟨kx, 4, none⟩ = some (.float .f64 cc.flt) /\ w'.cell? ⟨kx, 5, none⟩ = some (.string cc.str) /\ w'.cell? ⟨kx, 6, none⟩ = some (.int .i64 cc.ref))) (by kernel_rfl) J292 (fun hHeld => ?_)
           refine tk 0 ?_
           refine tk 1 ?_
           refine tk 2 ?_
           refine tk 3 ?_
           refine tk 5 ?_
           refine tk 6 ?_
           refine tk 7 ?_
           refine tk 8 ?_
           refine tk 9 ?_
           refine tk 10 ?_
           refine tk 11 ?_
           refine tk 12 ?_
           refine tk 13 ?_
           refine tk 14 ?_
           refine tk 15 ?_
           simp only [wrap_nat' lq1]
           refine tk 16 ?_
           refine tk 17 ?_
           refine tk 18 ?_
           refine tk 19 ?_
           refine tk 20 ?_
           refine rd [4, 21] ?_
           refine AllReadyH.cons rfl (fun K hK => ?_) ?_
           · simp only [gA, gB, gC]
             go_simp
             refine hK.out _ _ J292 (fun hHeld => ?_)
             clear hK K
             try simp only [gA, gB, gC, Act.put, gD, gE, gF]
             refine rd [21] ?_
             exact J17
           refine AllReadyH.cons rfl (fun K hK => ?_) ?_
           · simp only [gA, gB, gC]
             go_simp
             refine hK.out _ _ J292 (fun hHeld => ?_)
             clear hK K
             try simp only [gA, gB, gC, Act.put, gD, gE, gF]
             refine rd [4] ?_
             exact J17
           exact AllReadyH.nil
end Go.Proofs.YtlibofjbhhdjdaaGreat
