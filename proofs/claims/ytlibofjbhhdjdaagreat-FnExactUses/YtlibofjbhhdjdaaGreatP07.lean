import Derived.Test.YtlibofjbhhdjdaaGreatQ
import Derived.Test.YtlibofjbhhdjdaaGreatP02
set_option linter.unusedSimpArgs false
set_option maxRecDepth 100000
set_option maxHeartbeats 16000000
namespace Go.Proofs.YtlibofjbhhdjdaaGreat
open Go.RowKit
attribute [local go_sem] rsf
variable {cur:Array Value} {b g k n np o:Nat} {f:Nat->Nat->Int} {nm pm:Nat->PM} {P p:Nat->Prop} {e:TypeId} {a w w':World}
def UsesAt (w:World) (a:Option Addr) (n:Nat) (f:Nat->Nat->Int):Prop:=
 0 < n->∃g cur,a=some ⟨g,0,none⟩/\Blk w g 58 cur/\∀i,i < n->∀j,j < 4->cur[i*4+j]?= some (.int .i64 (f i j))
theorem UsesAt.onw (o:Onw w w'){a:Option Addr}(h:UsesAt w a n f):UsesAt w' a n f:=fun h0=>by
 obtain ⟨g,cur,h1,h2,h3⟩:=h h0
 exact ⟨g,cur,h1,h2.onw o,h3⟩
theorem UsesAt.kept (hk:Kept p w w'){a:Option Addr}(ha:∀x,a=some x->p x.block)(h:UsesAt w a n f):UsesAt w' a n f:=fun h0=>by
 obtain ⟨g,cur,h1,h2,h3⟩:=h h0
 exact ⟨g,cur,h1,h2.kept hk (ha _ h1),h3⟩
theorem eqUse_same (a b c d:Int)(w:World):Calls Tryz.prog 19 #[.agg #[.int .i64 a,.int .i64 b,.int .i64 c,.int .i64 d],.agg #[.int .i64 a,.int .i64 b,.int .i64 c,.int .i64 d]] w fun e w'=>e= .returned (.bool true)/\Onw w w':=by
 go_enter Tryz.func19,Tryz.ntmps19
 exact J152
theorem eqUseS_same (a a':Option Addr)(n c c':Nat)(f:Nat->Nat->Int)(w:World)(hn:n<=1048576)(ha:UsesAt w a n f)(ha':UsesAt w a' n f):
  Calls Tryz.prog 8 #[.slice a n c,.slice a' n c'] w fun e w'=>e= .returned (.bool true)/\Onw w w':=by
 have HA:Hid _:=ha
 have HA':Hid _:=ha'
 clear ha ha'
 go_enter Tryz.func8,Tryz.ntmps8
 go_wp2_with fail
 go_loopw [5] (fun i wr=>∃k:Nat,k<=n/\i= .int .i64 k/\Onw w wr) (fun i _=>n-(intOf i).toNat)
 case atStart=>exact ⟨0,Nat.zero_le _,rfl,Onw.refl _⟩
 case round=>
  obtain ⟨k,hk,rfl,hb⟩:=hrel
  by_cases hlt:k < n
  ·obtain ⟨g,cur,ea,B,hc⟩:=UsesAt.onw hb HA.out Zo
   obtain ⟨g',cur',ea',B',hc'⟩:=UsesAt.onw hb HA'.out Zo
   have c0:wr.cell? ⟨g,k*4,none⟩=some (.int .i64 (f k 0)):=(B.cell _).trans (hc k hlt 0 Zo)
   have c1:wr.cell? ⟨g,k*4+1,none⟩=some (.int .i64 (f k 1)):=(B.cell _).trans (hc k hlt 1 Zo)
   have c2:wr.cell? ⟨g,k*4+2,none⟩=some (.int .i64 (f k 2)):=(B.cell _).trans (hc k hlt 2 Zo)
   have c3:wr.cell? ⟨g,k*4+3,none⟩=some (.int .i64 (f k 3)):=(B.cell _).trans (hc k hlt 3 Zo)
   have d0:wr.cell? ⟨g',k*4,none⟩=some (.int .i64 (f k 0)):=(B'.cell _).trans (hc' k hlt 0 Zo)
   have d1:wr.cell? ⟨g',k*4+1,none⟩=some (.int .i64 (f k 1)):=(B'.cell _).trans (hc' k hlt 1 Zo)
   have d2:wr.cell? ⟨g',k*4+2,none⟩=some (.int .i64 (f k 2)):=(B'.cell _).trans (hc' k hlt 2 Zo)
   have d3:wr.cell? ⟨g',k*4+3,none⟩=some (.int .i64 (f k 3)):=(B'.cell _).trans (hc' k hlt 3 Zo)
   have hi:(k:Int) < (n:Int):=Zo
   have hi0:(0:Int)<=(k:Int):=Zo
   rw[ea,ea']
   clear hc hc' B B' ea ea'
   go_wp2_with fail
   go_region_with (go_at_call 19;refine (eqUse_same (f k 0) (f k 1) (f k 2) (f k 3) _).mono ?_;rintro e w1 ⟨rfl,hb1⟩)
   all_goals
    go_wp2_with fail
    go_roundw
    case rel=>exact ⟨k+1,by omega,by go_num,Onw.trans (Below.drew hb) hb1⟩
    case measure=>simp[intOf];omega
  ·obtain rfl:k=n:=Zo
   go_wp2_with fail
   go_ret
   exact ⟨rfl,hb⟩
structure Chg (p:Nat->Prop) (w w':World):Prop where
 os:w'.os=w.os
 tape:w'.tape=w.tape
 output:w'.output=w.output
 size:w.heap.size<=w'.heap.size
 block:∀k,k < w.heap.size->¬p k->w'.heap[k]?= w.heap[k]?
theorem Chg.refl (p:Nat->Prop)(w:World):Chg p w w:=⟨rfl,rfl,rfl,Nat.le_refl _,fun _ _ _=>rfl⟩
theorem Chg.trans {a b c:World}(h:Chg p a b)(k:Chg p b c):Chg p a c:=
 ⟨k.os.trans h.os,k.tape.trans h.tape,k.output.trans h.output,Nat.le_trans h.size k.size,fun i hi hp=>(k.block i (Nat.lt_of_lt_of_le hi h.size) hp).trans (h.block i hi hp)⟩
theorem Chg.onw (o:Onw w w'):Chg p w w':=⟨o.os,o.tape,o.output,o.size,fun k hk _=>o.block k hk⟩
theorem Chg.mono {p q:Nat->Prop}(h:Chg p w w')(hp:∀k,k < w.heap.size->p k->q k):Chg q w w':=⟨h.os,h.tape,h.output,h.size,fun k hk hq=>h.block k hk (fun e=>hq (hp k hk e))⟩
theorem Chg.set (h:Chg p a w)(hb:p b)(v:Value):Chg p a (w.setCell ⟨b,o,none⟩ v):=by
 have x:=(Below.refl 0 w).setCell (p:=⟨b,o,none⟩) (Nat.zero_le _) v
 exact ⟨x.os.trans h.os,x.tape.trans h.tape,x.output.trans h.output,Nat.le_trans h.size x.size,fun k hk hp=>(ksc w b o v k (fun e=>hp (e▸hb))).trans (h.block k hk hp)⟩
theorem Chg.blk (h:Chg p w w')(B:Blk w g e cur)(hg:¬p g):Blk w' g e cur:=(h.block g B.lt hg).trans B
theorem Chg.below {B:Nat}(h:Chg p w w')(b:Below B a w)(hB:B<=w.heap.size)(hp:∀k,p k->B<=k):Below B a w':=
 b.trans ⟨h.os,h.tape,h.output,h.size,fun k hk=>h.block k Zo (fun e=>by have:=hp k e;omega)⟩
def markF (k:Int):Nat->Nat->Int:=fun i j=>k+4*(i:Int)+(j:Int)
def isBlk (a:Option Addr) (b:Nat):Prop:=∃x,a=some x/\x.block=b
theorem markUseS_any (a:Option Addr)(n c:Nat)(f:Nat->Nat->Int)(k:Int)(w:World)(hn:n<=1048576)(hk0:0<=k)(hk1:k<=1048576)(ha:UsesAt w a n f):
  Calls Tryz.prog 11 #[.slice a n c,.int .i64 k] w fun e w'=>e= .returned (.int .i64 (k+4*(n:Int)))/\UsesAt w' a n (markF k)/\Chg (isBlk a) w w':=by
 have HA:Hid _:=ha
 clear ha
 by_cases n0:n=0
 ·subst n0
  go_enter Tryz.func11,Tryz.ntmps11
  go_wp2_with fail
  go_loopw [1,5] (fun q i wr=>q= .int .i64 k/\i= .int .i64 0/\wr=w) (fun _ _ _=>0)
  case atStart=>exact ⟨rfl,rfl,rfl⟩
  case round=>
   obtain ⟨rfl,rfl,rfl⟩:=hrel
   go_wp2_with fail
   go_ret
   exact ⟨by simp,fun h=>absurd h (Nat.lt_irrefl _),Chg.refl _ _⟩
 ·obtain ⟨g,cur,rfl,B,hc⟩:=HA.out Zo
  have hsz:n*4<=cur.size:=by
   have:=(Array.getElem?_eq_some_iff.1 (hc (n-1) Zo 3 Zo)).1
   omega
  have HB:Hid _:=B
  have HSZ:Hid _:=hsz
  clear hc HA B hsz n0
  go_enter Tryz.func11,Tryz.ntmps11
  go_wp2_with fail
  go_loopw [1,5] (fun q i wr=>∃(m:Nat) (cr:Array Value),m<=n/\i= .int .i64 m/\q= .int .i64 (k+4*(m:Int))/\Blk wr g 58 cr/\n*4<=cr.size/\(∀i,i < m->∀j,j < 4->cr[i*4+j]?= some (.int .i64 (markF k i j)))/\Chg (isBlk (some ⟨g,0,none⟩)) w wr) (fun _ i _=>n-(intOf i).toNat)
  case atStart=>exact ⟨0,cur,Nat.zero_le _,rfl,by simp,HB.out,HSZ.out,fun i hi=>absurd hi (Nat.not_lt_zero _),Chg.refl _ _⟩
  case round=>
   obtain ⟨m,cr,hm,rfl,rfl,B,hz,hmk,hch⟩:=hrel
   have HMK:Hid _:=hmk
   have HCH:Hid _:=hch
   clear hmk hch
   by_cases hlt:m < n
   ·have hi:(m:Int) < (n:Int):=Zo
    have hi0:(0:Int)<=(m:Int):=Zo
    have fr:=B.free
    have zb:=B.lt
    obtain ⟨x0,y0⟩:=B.some (j:=m*4) Zo
    obtain ⟨x1,y1⟩:=B.some (j:=m*4+1) Zo
    obtain ⟨x2,y2⟩:=B.some (j:=m*4+2) Zo
    obtain ⟨x3,y3⟩:=B.some (j:=m*4+3) Zo
    have HZ:Hid _:=hz
    clear hz
    go_wp2_with fail
    go_roundw
    case rel=>
     have V:∀j,j < 4->([.int .i64 (k+4*(m:Int)),.int .i64 (k+4*(m:Int)+1),.int .i64 (k+4*(m:Int)+1+1),.int .i64 (k+4*(m:Int)+1+1+1)]:List Value)[j]?= some (.int .i64 (markF k m j)):=fun j hj=>by
      rcases (by omega:j=0\/j=1\/j=2\/j=3) with rfl|rfl|rfl|rfl
      all_goals (simp[markF];try omega)
     refine ⟨m+1,setL cr (m*4) [.int .i64 (k+4*(m:Int)),.int .i64 (k+4*(m:Int)+1),.int .i64 (k+4*(m:Int)+1+1),.int .i64 (k+4*(m:Int)+1+1+1)],by omega,by go_num,by congr 1;push_cast;omega,Blk.setL [.int .i64 (k+4*(m:Int)),.int .i64 (k+4*(m:Int)+1),.int .i64 (k+4*(m:Int)+1+1),.int .i64 (k+4*(m:Int)+1+1+1)] wr cr (m*4) B,by rw[size_setL];exact HZ.out,fun i hi j hj=>?_,(((HCH.out.set ⟨_,rfl,rfl⟩ _).set ⟨_,rfl,rfl⟩ _).set ⟨_,rfl,rfl⟩ _).set ⟨_,rfl,rfl⟩ _⟩
     have hz:=HZ.out
     by_cases e:i=m
     ·subst e
      rw[get_setL_in _ _ _ _ Zj (by simpa using hj)]
      exact V j hj
     ·rw[get_setL_out _ _ _ _ Zj]
      exact HMK.out i Zo j hj
    case measure=>simp[intOf];omega
   ·obtain rfl:m=n:=Zo
    go_wp2_with fail
    go_ret
    exact ⟨rfl,fun _=>⟨g,cr,rfl,B,HMK.out⟩,HCH.out⟩
theorem heldUseS_any (a:Option Addr)(n c:Nat)(k:Int)(w:World)(hn:n<=1048576)(hk0:0<=k)(hk1:k<=1048576)(ha:UsesAt w a n (markF k)):
  Calls Tryz.prog 12 #[.slice a n c,.int .i64 k] w fun e w'=>e= .returned (.int .i64 (k+4*(n:Int)))/\Onw w w':=by
 have HA:Hid _:=ha
 clear ha
 go_enter Tryz.func12,Tryz.ntmps12
 go_wp2_with fail
 go_loopw [1,5] (fun q i wr=>∃m:Nat,m<=n/\i= .int .i64 m/\q= .int .i64 (k+4*(m:Int))/\wr=w) (fun _ i _=>n-(intOf i).toNat)
 case atStart=>exact ⟨0,Nat.zero_le _,rfl,by simp,rfl⟩
 case round=>
  obtain ⟨m,hm,rfl,rfl,rfl⟩:=hrel
  by_cases hlt:m < n
  ·obtain ⟨g,cur,ea,B,hc⟩:=HA.out Zo
   have c0:wr.cell? ⟨g,m*4,none⟩=some (.int .i64 (k+4*(m:Int))):=(B.cell _).trans ((hc m hlt 0 Zo).trans (by unfold markF;congr 2;omega))
   have c1:wr.cell? ⟨g,m*4+1,none⟩=some (.int .i64 (k+4*(m:Int)+1)):=(B.cell _).trans ((hc m hlt 1 Zo).trans (by unfold markF;congr 2))
   have c2:wr.cell? ⟨g,m*4+2,none⟩=some (.int .i64 (k+4*(m:Int)+1+1)):=(B.cell _).trans ((hc m hlt 2 Zo).trans (by unfold markF;congr 2;omega))
   have c3:wr.cell? ⟨g,m*4+3,none⟩=some (.int .i64 (k+4*(m:Int)+1+1+1)):=(B.cell _).trans ((hc m hlt 3 Zo).trans (by unfold markF;congr 2;omega))
   have hi:(m:Int) < (n:Int):=Zo
   have hi0:(0:Int)<=(m:Int):=Zo
   have zb:=B.lt
   rw[ea]
   clear hc B ea
   go_wp2_with fail
   go_roundw
   case rel=>exact ⟨m+1,by omega,by go_num,by congr 1;push_cast;omega,by first|exact trivial|rfl⟩
   case measure=>simp[intOf];omega
  ·obtain rfl:m=n:=Zo
   go_wp2_with fail
   go_ret
   exact ⟨rfl,Onw.refl _⟩
theorem pow_small2 {n:Int}(h:(10:Int)^k<=n)(h1:n<=9223372036854775807):k<=18:=by
 exact J111
theorem markText_any (n:Int)(w:World)(h0:0<=n)(h1:n<=9223372036854775807):Calls Tryz.prog 32 #[.int .i64 n] w fun e w'=>∃s,e= .returned (.string s)/\Onw w w':=by
 by_cases hz:n=0
 ·subst hz
  go_enter Tryz.func32,Tryz.ntmps32
  go_wp2_with fail
  go_ret
  exact ⟨_,rfl,Onw.refl _⟩
 have k1:decide (n<=0)=false:=decide_eq_false Zo
 go_enter Tryz.func32,Tryz.ntmps32
 go_wp2_with fail
 go_loopw [0,3] (fun nv sv wr=>∃(m:Int) (s:ByteArray),nv= .int .i64 m/\sv= .string s/\0<=m/\m<=9223372036854775807/\s.size<=19/\m*10^s.size<=n/\Onw w wr) (fun nv _ _=>(intOf nv).toNat)
 case atStart=>exact ⟨n,_,rfl,rfl,h0,h1,by show (0:Nat)<=19;omega,by show n*10^0<=n;simp,Onw.refl _⟩
 case round=>
  obtain ⟨m,s,rfl,rfl,hm0,hm1,hsz,hle,ob⟩:=hrel
  have HLE:Hid _:=hle
  have HSZ:Hid _:=hsz
  clear hle k1 hz
  by_cases hp:0 < m
  ·have hcv:Sem.run Tryz.prog (convert 116 9 (.slice (some ⟨wr.heap.size,0,none⟩) 1 1)) (wr.alloc (Obj.cells #[.int .u8 (48+m%10)] 5))= .ok (.string (ByteArray.empty.push (UInt8.ofNat (48+m%10).toNat))) (wr.alloc (Obj.cells #[.int .u8 (48+m%10)] 5)):=by
    exact J74
   have ssz:s.size<=18:=by
    have h2:(0:Int)<=10^s.size:=Int.pow_nonneg Zo
    have h4:=Int.mul_le_mul_of_nonneg_right (show 1<=m by omega) h2
    have h5:=HLE.out
    exact pow_small2 Zo h1
   have HM:Hid ((m/10)*10^(1+s.size)<=n):=by
    exact J90
   go_wp2_with fail
   go_roundw
   case rel=>
    have e:(ByteArray.empty.push (UInt8.ofNat (48+m%10).toNat)++s).size=1+s.size:=by rw[ByteArray.size_append];rfl
    exact ⟨m/10,_,rfl,rfl,by omega,by omega,by rw[e];omega,by rw[e];exact HM.out,ob.trans (Onw.alloc _ _)⟩
   case measure=>simp[intOf];omega
  ·obtain rfl:m=0:=Zo
   go_wp2_with fail
   go_ret
   exact ⟨⟨_,rfl⟩,ob⟩
def OwnB (w:World) (g:Nat) (e:TypeId) (n:Nat):Prop:=∃cur,Blk w g e cur/\cur.size=n
theorem OwnB.set (h:OwnB w g e n)(b o:Nat)(v:Value):OwnB (w.setCell ⟨b,o,none⟩ v) g e n:=by
 obtain ⟨cur,B,hz⟩:=h
 by_cases e:g=b
 ·subst e
  exact ⟨_,B.set o v,by simp[hz]⟩
 ·exact ⟨cur,B.kept (ksc w b o v) e,hz⟩
theorem OwnB.onw (o:Onw w w')(h:OwnB w g e n):OwnB w' g e n:=by
 obtain ⟨cur,B,hz⟩:=h
 exact ⟨cur,B.onw o,hz⟩
structure Mrk (p:Nat->Prop) (w w':World):Prop where
 chg:Chg p w w'
 own:∀g e n,OwnB w g e n->OwnB w' g e n
theorem Mrk.refl (p:Nat->Prop)(w:World):Mrk p w w:=⟨Chg.refl _ _,fun _ _ _ h=>h⟩
theorem Mrk.trans {a b c:World}(h:Mrk p a b)(k:Mrk p b c):Mrk p a c:=⟨h.chg.trans k.chg,fun g e n x=>k.own g e n (h.own g e n x)⟩
theorem Mrk.onw (o:Onw w w'):Mrk p w w':=⟨Chg.onw o,fun _ _ _ h=>h.onw o⟩
theorem Mrk.set (h:Mrk p a w)(hb:p b)(v:Value):Mrk p a (w.setCell ⟨b,o,none⟩ v):=⟨h.chg.set hb v,fun g e n x=>(h.own g e n x).set b o v⟩
theorem Mrk.mono {p q:Nat->Prop}(h:Mrk p w w')(hp:∀k,k < w.heap.size->p k->q k):Mrk q w w':=⟨h.chg.mono hp,h.own⟩
theorem markIntS_any (g n c:Nat)(k:Int)(w:World)(hn:n<=1048576)(hk0:0<=k)(hk1:k<=4611686018427387904)(ha:OwnB w g 3 n):
  Calls Tryz.prog 34 #[.slice (some ⟨g,0,none⟩) n c,.int .i64 k] w fun e w'=>e= .returned (.int .i64 (k+(n:Int)))/\Mrk (·=g) w w':=by
 have HA:Hid _:=ha
 clear ha
 go_enter Tryz.func34,Tryz.ntmps34
 go_wp2_with fail
 go_loopw [1,5] (fun q i wr=>∃m:Nat,m<=n/\i= .int .i64 m/\q= .int .i64 (k+(m:Int))/\Mrk (·=g) w wr) (fun _ i _=>n-(intOf i).toNat)
 case atStart=>exact ⟨0,Nat.zero_le _,rfl,by simp,Mrk.refl _ _⟩
 case round=>
  obtain ⟨m,hm,rfl,rfl,hM⟩:=hrel
  have HM:Hid _:=hM
  obtain ⟨cur,B,hz⟩:=hM.own _ _ _ HA.out
  clear hM
  by_cases hlt:m < n
  ·have hi:(m:Int) < (n:Int):=Zo
   have hi0:(0:Int)<=(m:Int):=Zo
   have fr:=B.free
   have zb:=B.lt
   obtain ⟨x0,y0⟩:=B.some (j:=m) Zo
   clear hz B
   go_wp2_with fail
   go_roundw
   case rel=>exact ⟨m+1,by omega,by go_num,by congr 1;push_cast;omega,HM.out.set rfl _⟩
   case measure=>simp[intOf];omega
  ·exact J176
theorem markStringS_any (g n c:Nat)(k:Int)(w:World)(hn:n<=1048576)(hk0:0<=k)(hk1:k<=4611686018427387904)(ha:OwnB w g 9 n):
  Calls Tryz.prog 33 #[.slice (some ⟨g,0,none⟩) n c,.int .i64 k] w fun e w'=>e= .returned (.int .i64 (k+(n:Int)))/\Mrk (·=g) w w':=by
 have HA:Hid _:=ha
 clear ha
 go_enter Tryz.func33,Tryz.ntmps33
 go_wp2_with fail
 go_loopw [1,5] (fun q i wr=>∃m:Nat,m<=n/\i= .int .i64 m/\q= .int .i64 (k+(m:Int))/\Mrk (·=g) w wr) (fun _ i _=>n-(intOf i).toNat)
 case atStart=>exact ⟨0,Nat.zero_le _,rfl,by simp,Mrk.refl _ _⟩
 case round=>
  obtain ⟨m,hm,rfl,rfl,hM⟩:=hrel
  have HM:Hid _:=hM
  clear hM
  by_cases hlt:m < n
  ·have hi:(m:Int) < (n:Int):=Zo
   have hi0:(0:Int)<=(m:Int):=Zo
   go_wp2_with fail
   refine (markText_any _ _ Zo Zo).mono ?_
   rintro e w1 ⟨s,rfl,O1⟩
   have HM1:Hid _:=HM.out.trans (Mrk.onw O1)
   obtain ⟨cur,B,hz⟩:=HM1.out.own _ _ _ HA.out
   have fr:=B.free
   have zb:=B.lt
   obtain ⟨x0,y0⟩:=B.some (j:=m) Zo
   clear hz B O1
   go_wp2_with fail
   go_roundw
   case rel=>exact ⟨m+1,by omega,by go_num,by congr 1;push_cast;omega,HM1.out.set rfl _⟩
   case measure=>simp[intOf];omega
  ·exact J176
structure PS (w:World) (P:Nat->Prop) (g np:Nat) (pm:Nat->PM) (w':World):Prop where
 mrk:Mrk P w w'
 c8:∀i,i < np->w'.cell? ⟨g,i*10+8,none⟩=some (.slice (pm i).na (pm i).nn (pm i).nc)
 c9:∀i,i < np->w'.cell? ⟨g,i*10+9,none⟩=some (.slice (pm i).ka (pm i).nk (pm i).kc)
theorem PS.set (h:PS w P g np pm w')(hg:P g)(ho:∀i,o≠i*10+8/\o≠i*10+9)(v:Value):PS w P g np pm (w'.setCell ⟨g,o,none⟩ v):=by
 have e:∀q,o≠q->(w'.setCell ⟨g,o,none⟩ v).cell? ⟨g,q,none⟩=w'.cell? ⟨g,q,none⟩:=fun q hq=>World.cell?_setCell_other _ _ _ _ J269
 exact ⟨h.mrk.set hg v,fun i hi=>(e _ (ho i).1).trans (h.c8 i hi),fun i hi=>(e _ (ho i).2).trans (h.c9 i hi)⟩
theorem PS.onw {w w' w'':World}(h:PS w P g np pm w')(o:Onw w' w''):PS w P g np pm w'':=
 ⟨h.mrk.trans (Mrk.onw o),fun i hi=>con o (h.c8 i hi),fun i hi=>con o (h.c9 i hi)⟩
theorem PS.other {w w' w'':World}(h:PS w P g np pm w'){q:Nat}(hq:P q)(hne:q≠g)(hlt:g < w'.heap.size)(m:Mrk (·=q) w' w''):PS w P g np pm w'':=by
 have e:∀o,w''.cell? ⟨g,o,none⟩=w'.cell? ⟨g,o,none⟩:=fun o=>World.cell?_of_block (m.chg.block g hlt (fun e=>hne e.symm))
 exact ⟨h.mrk.trans (m.mono (fun k _ hk=>hk▸hq)),fun i hi=>(e _).trans (h.c8 i hi),fun i hi=>(e _).trans (h.c9 i hi)⟩
structure TreeOwn (w:World) (P:Nat->Prop) (g np:Nat) (pm:Nat->PM):Prop where
 pg:P g
 own:OwnB w g 67 (np*10)
 c8:∀i,i < np->w.cell? ⟨g,i*10+8,none⟩=some (.slice (pm i).na (pm i).nn (pm i).nc)
 c9:∀i,i < np->w.cell? ⟨g,i*10+9,none⟩=some (.slice (pm i).ka (pm i).nk (pm i).kc)
 names:∀i,i < np->∃q,(pm i).na=some ⟨q,0,none⟩/\P q/\OwnB w q 9 (pm i).nn
 kids:∀i,i < np->∃q,(pm i).ka=some ⟨q,0,none⟩/\P q/\OwnB w q 3 (pm i).nk
theorem TreeOwn.onw (h:TreeOwn w P g np pm)(o:Onw w w'):TreeOwn w' P g np pm:=
 ⟨h.pg,h.own.onw o,fun i hi=>con o (h.c8 i hi),fun i hi=>con o (h.c9 i hi),fun i hi=>by
  obtain ⟨q,a,b,c⟩:=h.names i hi
  exact ⟨q,a,b,c.onw o⟩,fun i hi=>by
  obtain ⟨q,a,b,c⟩:=h.kids i hi
  exact ⟨q,a,b,c.onw o⟩⟩
theorem own_type {g g':Nat}{e e':TypeId}{n n':Nat}(h:OwnB w g e n)(k:OwnB w g' e' n')(hne:e≠e'):g≠g':=by
 obtain ⟨a,A,_⟩:=h
 obtain ⟨b,B,_⟩:=k
 rintro rfl
 unfold Blk at A B
 rw[A] at B
 simp only[Option.some.injEq,Obj.cells.injEq] at B
 exact hne B.2.1
theorem markPartS_any (g np c:Nat)(pm:Nat->PM)(w:World)(hn:np<=1048576)(hs:∀i,i < np->(pm i).nn<=1048576/\(pm i).nk<=1048576)(ht:TreeOwn w P g np pm):
  Calls Tryz.prog 21 #[.slice (some ⟨g,0,none⟩) np c,.int .i64 1] w fun e w'=>∃k,e= .returned (.int .i64 k)/\0<=k/\Mrk P w w':=by
 have HT:Hid _:=ht
 have HS:Hid _:=hs
 clear ht hs
 go_enter Tryz.func21,Tryz.ntmps21
 go_wp2_with fail
 go_loopw [1,5] (fun q i wr=>∃(m:Nat) (k:Int),m<=np/\i= .int .i64 m/\q= .int .i64 k/\0<=k/\k<=1+(m:Int)*2097160/\PS w P g np pm wr) (fun _ i _=>np-(intOf i).toNat)
 case atStart=>exact ⟨0,1,Nat.zero_le _,rfl,rfl,by omega,by omega,Mrk.refl _ _,HT.out.c8,HT.out.c9⟩
 case round=>
  obtain ⟨m,k,hm,rfl,rfl,k0,k1,hP⟩:=hrel
  have HP:Hid _:=hP
  obtain ⟨cur,B,hz⟩:=hP.mrk.own _ _ _ HT.out.own
  clear hP
  by_cases hlt:m < np
  ·have hi:(m:Int) < (np:Int):=Zo
   have hi0:(0:Int)<=(m:Int):=Zo
   have fr:=B.free
   have zb:=B.lt
   obtain ⟨x0,y0⟩:=B.some (j:=m*10) Zo
   obtain ⟨x1,y1⟩:=B.some (j:=m*10+1) Zo
   obtain ⟨x2,y2⟩:=B.some (j:=m*10+2) Zo
   obtain ⟨x3,y3⟩:=B.some (j:=m*10+3) Zo
   obtain ⟨x4,y4⟩:=B.some (j:=m*10+4) Zo
   obtain ⟨x5,y5⟩:=B.some (j:=m*10+5) Zo
   obtain ⟨x6,y6⟩:=B.some (j:=m*10+6) Zo
   have kb:k<=2199031644161:=Zo
   have HK1:Hid _:=k1
   clear hz B k1
   go_wp2_with fail
   have P7:Hid _:=(PS.set (PS.set (PS.set (PS.set (PS.set (PS.set (PS.set HP.out HT.out.pg (o:=m*10) (fun i=>by omega) (.int .i64 k)) HT.out.pg (o:=m*10+1) (fun i=>by omega) (.int .i64 (k+1))) HT.out.pg (o:=m*10+2) (fun i=>by omega) (.int .i64 (k+1+1))) HT.out.pg (o:=m*10+3) (fun i=>by omega) (.int .i64 (k+1+1+1))) HT.out.pg (o:=m*10+4) (fun i=>by omega) (.int .i64 (k+1+1+1+1))) HT.out.pg (o:=m*10+5) (fun i=>by omega) (.int .i64 (k+1+1+1+1+1))) HT.out.pg (o:=m*10+6) (fun i=>by omega) (.float .f64 (floatOfInt .f64 (k+1+1+1+1+1+1))))
   generalize (World.setCell (World.setCell (World.setCell (World.setCell (World.setCell (World.setCell (World.setCell wr ⟨g,m*10,none⟩ (.int .i64 k)) ⟨g,m*10+1,none⟩ (.int .i64 (k+1))) ⟨g,m*10+2,none⟩ (.int .i64 (k+1+1))) ⟨g,m*10+3,none⟩ (.int .i64 (k+1+1+1))) ⟨g,m*10+4,none⟩ (.int .i64 (k+1+1+1+1))) ⟨g,m*10+5,none⟩ (.int .i64 (k+1+1+1+1+1))) ⟨g,m*10+6,none⟩ (.float .f64 (floatOfInt .f64 (k+1+1+1+1+1+1))))=w7 at*
   clear fr zb y0 y1 y2 y3 y4 y5 y6
   refine (markText_any _ _ Zo Zo).mono ?_
   rintro e w8 ⟨st,rfl,O8⟩
   have P8:Hid _:=P7.out.onw O8
   obtain ⟨cur8,B8,hz8⟩:=P8.out.mrk.own _ _ _ HT.out.own
   have fr:=B8.free
   have zb:=B8.lt
   obtain ⟨x7,y7⟩:=B8.some (j:=m*10+7) Zo
   obtain ⟨qn,en,pn,on⟩:=HT.out.names m hlt
   obtain ⟨qk,ek,pk,ok⟩:=HT.out.kids m hlt
   obtain ⟨sn,sk⟩:=HS.out m hlt
   have y8:w8.cell? ⟨g,m*10+8,none⟩=some (.slice (some ⟨qn,0,none⟩) (pm m).nn (pm m).nc):=by rw[<-en];exact P8.out.c8 m hlt
   have HON:Hid _:=on
   have HOK:Hid _:=ok
   have HEK:Hid _:=ek
   clear O8 hz8 B8 on ok ek en
   go_wp2_with fail
   have P9:Hid _:=PS.set P8.out HT.out.pg (o:=m*10+7) (fun i=>by omega) (.string st)
   have ON:Hid _:=P9.out.mrk.own _ _ _ HON.out
   have OG:Hid _:=P9.out.mrk.own _ _ _ HT.out.own
   have OK:Hid _:=P9.out.mrk.own _ _ _ HOK.out
   clear fr zb y7 y8
   generalize World.setCell w8 ⟨g,m*10+7,none⟩ (.string st)=w9 at*
   have z8:g < w9.heap.size:=clt (P9.out.c8 m hlt)
   refine (markStringS_any qn (pm m).nn (pm m).nc _ _ sn Zo Zo ON.out).mono ?_
   rintro e w10 ⟨rfl,M10⟩
   have P10:Hid _:=P9.out.other pn (own_type ON.out OG.out Zb) z8 M10
   have y9:w10.cell? ⟨g,m*10+9,none⟩=some (.slice (some ⟨qk,0,none⟩) (pm m).nk (pm m).kc):=by rw[<-HEK.out];exact P10.out.c9 m hlt
   have z9:=clt y9
   have OK':Hid _:=M10.own _ _ _ OK.out
   have OG':Hid _:=M10.own _ _ _ OG.out
   clear z8 M10
   go_wp2_with fail
   refine (markIntS_any qk (pm m).nk (pm m).kc _ _ sk Zo Zo OK'.out).mono ?_
   rintro e w11 ⟨rfl,M11⟩
   have P11:Hid _:=P10.out.other pk (own_type OK'.out OG'.out Zb) z9 M11
   clear y9 z9 M11
   go_wp2_with fail
   go_roundw
   case rel=>exact ⟨m+1,_,by omega,by go_num,rfl,by omega,by have:=HK1.out;push_cast;omega,P11.out⟩
   case measure=>simp[intOf];omega
  ·obtain rfl:m=np:=Zo
   go_wp2_with fail
   go_ret
   exact ⟨k,rfl,k0,HP.out.mrk⟩
theorem markTree_any (g np c:Nat)(pm:Nat->PM)(w:World)(hn:np<=1048576)(hs:∀i,i < np->(pm i).nn<=1048576/\(pm i).nk<=1048576)(ht:TreeOwn w P g np pm):
  Calls Tryz.prog 10 #[.agg #[.slice (some ⟨g,0,none⟩) np c],.int .i64 1] w fun e w'=>∃k,e= .returned (.int .i64 k)/\0<=k/\Mrk P w w':=by
 have HT:Hid _:=ht
 have HS:Hid _:=hs
 clear ht hs
 have O0:Hid _:=Onw.alloc w (Obj.cells #[.slice (some ⟨g,0,none⟩) np c] 30)
 go_enter Tryz.func10,Tryz.ntmps10
 go_wp2_with fail
 refine (markPartS_any g np c pm _ hn HS.out (HT.out.onw O0.out)).mono ?_
 rintro e w1 ⟨k,rfl,k0,M1⟩
 have HM:Hid _:=(Mrk.onw O0.out).trans M1
 clear M1
 go_wp2_with fail
 go_ret
 exact ⟨k,rfl,k0,HM.out⟩
theorem toIntS_own (a:Option Addr)(n c:Nat)(f:Nat->Int)(w:World)(hn:n<=1048576)(ha:IntsAt w a n f):
  Calls Tryz.prog 43 #[.slice a n c] w fun e w'=>∃g,e= .returned (.slice (some ⟨g,0,none⟩) n n)/\Onw w w'/\IntsAt w' (some ⟨g,0,none⟩) n f/\w.heap.size<=g/\OwnB w' g 3 n:=by
 have hmk:=run_make_ints n hn
 go_enter Tryz.func43,Tryz.ntmps43
 go_wp2
 go_loopw [4] (fun i wr=>∃k:Nat,k<=n/\i= .int .i64 k/\Onw w wr/\∃cur,Blk wr w.heap.size 3 cur/\cur.size=n/\∀i,i < k->cur[i]?= some (.int .i64 (f i))) (fun i _=>n-(intOf i).toNat)
 case atStart=>exact ⟨0,Nat.zero_le _,rfl,Onw.alloc _ _,_,Blk.new _ _ _,by simp[size_madeCells],fun i hi=>by omega⟩
 case round=>
  exact J84
theorem toStringS_own (a:Option Addr)(n c:Nat)(f:Nat->ByteArray)(w:World)(hn:n<=1048576)(ha:StrsAt w a n f):
  Calls Tryz.prog 42 #[.slice a n c] w fun e w'=>∃g,e= .returned (.slice (some ⟨g,0,none⟩) n n)/\Onw w w'/\StrsAt w' (some ⟨g,0,none⟩) n f/\w.heap.size<=g/\OwnB w' g 9 n:=by
 have hmk:=run_make_strs n hn
 go_enter Tryz.func42,Tryz.ntmps42
 go_wp2
 go_loopw [4] (fun i wr=>∃k:Nat,k<=n/\i= .int .i64 k/\Onw w wr/\∃cur,Blk wr w.heap.size 9 cur/\cur.size=n/\∀i,i < k->cur[i]?= some (.string (f i))) (fun i _=>n-(intOf i).toNat)
 case atStart=>exact ⟨0,Nat.zero_le _,rfl,Onw.alloc _ _,_,Blk.new _ _ _,by simp[size_madeCells],fun i hi=>by omega⟩
 case round=>
  exact J84
theorem toPart_own (m:PM)(w:World)(hr:m.nn<=1048576)(hk:m.nk<=1048576)(ha:m.At w):
  Calls Tryz.prog 27 #[.agg #[.int .i64 m.kind,.int .i64 m.frm,.int .i64 m.tto,.int .i64 m.line,.int .i64 m.op,.int .i64 m.num,.float .f64 m.flt,.string m.text,.slice m.na m.nn m.nc,.slice m.ka m.nk m.kc]] w fun e w'=>∃g1 g2,e= .returned (.agg #[.int .i64 m.kind,.int .i64 m.frm,.int .i64 m.tto,.int .i64 m.line,.int .i64 m.op,.int .i64 m.num,.float .f64 m.flt,.string m.text,.slice (some ⟨g1,0,none⟩) m.nn m.nn,.slice (some ⟨g2,0,none⟩) m.nk m.nk])/\Onw w w'/\StrsAt w' (some ⟨g1,0,none⟩) m.nn m.nm/\IntsAt w' (some ⟨g2,0,none⟩) m.nk m.kd/\w.heap.size<=g1/\w.heap.size<=g2/\OwnB w' g1 9 m.nn/\OwnB w' g2 3 m.nk:=by
 obtain ⟨a1,a2⟩:=ha
 go_enter Tryz.func27,Tryz.ntmps27
 go_wp2_with fail
 have o3:=((Onw.alloc w (Obj.cells #[.int .i64 m.kind,.int .i64 m.frm,.int .i64 m.tto,.int .i64 m.line,.int .i64 m.op,.int .i64 m.num,.float .f64 m.flt,.string m.text,.slice m.na m.nn m.nc,.slice m.ka m.nk m.kc] 66)).trans (Onw.alloc _ (Obj.cells #[.int .i64 0,.int .i64 0,.int .i64 0,.int .i64 0,.int .i64 0,.int .i64 0,.float .f64 0,.string ByteArray.empty,.slice none 0 0,.slice none 0 0] 67))).trans (Onw.alloc _ (Obj.cells #[.int .i64 m.kind,.int .i64 m.frm,.int .i64 m.tto,.int .i64 m.line,.int .i64 m.op,.int .i64 m.num,.float .f64 m.flt,.string m.text,.slice none 0 0,.slice none 0 0] 67))
 refine (toStringS_own _ _ _ m.nm _ hr (by exact a1.onw o3)).mono ?_
 rintro e w1 ⟨g1,rfl,hb1,hi1,hf1',own1⟩
 have hf1:Frm _ (some ⟨g1,0,none⟩):=fun x hx=>by cases hx;exact hf1'
 have HW1:Hid _:=own1
 have ob:Onw w w1:=Onw.trans o3 hb1
 have B0:=(Blk.new w 66 #[.int .i64 m.kind,.int .i64 m.frm,.int .i64 m.tto,.int .i64 m.line,.int .i64 m.op,.int .i64 m.num,.float .f64 m.flt,.string m.text,.slice m.na m.nn m.nc,.slice m.ka m.nk m.kc]).onw (((Onw.alloc _ _).trans (Onw.alloc _ _)).trans hb1)
 have B1:=Blk.onw ((Onw.alloc _ _).trans hb1) (Blk.new _ 67 _)
 have B2:=Blk.onw hb1 (Blk.new _ 67 _)
 have hz:w.heap.size+1+1 < w1.heap.size:=J299
 simp only[World.size_alloc] at B1 B2 hf1
 clear hb1 o3 own1 hf1'
 have c0:=B0.cell
 have c2:=B2.cell
 have f2:=B2.free
 go_wp2_with fail
 have ob2:Onw w (w1.setCell ⟨w.heap.size+1+1,8,none⟩ (.slice (some ⟨g1,0,none⟩) m.nn m.nn)):=Below.setCell ob Zj _
 have B0':=Blk.kept (ksc w1 (w.heap.size+1+1) 8 (.slice (some ⟨g1,0,none⟩) m.nn m.nn)) Zo B0
 have B1':=Blk.kept (ksc w1 (w.heap.size+1+1) 8 (.slice (some ⟨g1,0,none⟩) m.nn m.nn)) Zo B1
 have B2':=B2.set 8 (.slice (some ⟨g1,0,none⟩) m.nn m.nn)
 have hi1':=hi1.kept (ksc w1 (w.heap.size+1+1) 8 (.slice (some ⟨g1,0,none⟩) m.nn m.nn)) (fun x hx=>by have:=hf1 x hx;omega)
 clear hi1 B0 B1 B2 c0 c2 f2
 refine (toIntS_own _ _ _ m.kd _ hk (by exact a2.onw ob2)).mono ?_
 rintro e w2 ⟨g2,rfl,hb2,hi2,hf2',own2⟩
 have hf2:Frm _ (some ⟨g2,0,none⟩):=fun x hx=>by cases hx;exact hf2'
 have HW1':Hid (OwnB w2 g1 9 m.nn):=OwnB.onw hb2 (OwnB.set HW1.out (w.heap.size+1+1) 8 (.slice (some ⟨g1,0,none⟩) m.nn m.nn))
 have HW2:Hid _:=own2
 have hz2:w.heap.size+1+1 < w2.heap.size:=by have:=hb2.size;simp at this;omega
 have B1:=Blk.onw hb2 B1'
 have B2:=Blk.onw hb2 B2'
 have i1:=hi1'.onw hb2
 have ob3:=ob2.trans hb2
 simp only[World.size_setCell] at hf2
 clear hb2 own2 hf2' hi1' B0' B1' B2' ob2 ob
 have c2:=B2.cell
 have f2:=B2.free
 have c1:=B1.cell
 have f1:=B1.free
 go_wp2_with fail
 refine bodyPost_ret (v:= .agg #[.int .i64 m.kind,.int .i64 m.frm,.int .i64 m.tto,.int .i64 m.line,.int .i64 m.op,.int .i64 m.num,.float .f64 m.flt,.string m.text,.slice (some ⟨g1,0,none⟩) m.nn m.nn,.slice (some ⟨g2,0,none⟩) m.nk m.nk]) (by simp[results,Tryz.results27,go_sem,c1]) rfl ⟨g1,g2,rfl,?_,?_,?_,?_,?_,?_,?_⟩
 ·iterate 11 (refine bset ?_ Zo _)
  exact ob3
 ·exact J138
 ·exact J137
 ·have:=hf1 _ rfl
  simp only at this
  omega
 ·have:=hf2 _ rfl
  simp only at this
  omega
 ·iterate 11 (refine OwnB.set ?_ _ _ _)
  exact HW1'.out
 ·iterate 11 (refine OwnB.set ?_ _ _ _)
  exact HW2.out
theorem PartsRel.step2 {wr w1:World}{nm nm':Nat->PM}(R:PartsRel wr g n k nm nm' cur)(hkn:k < n)(hb:Onw wr w1)(a' a'':Option Addr)(i1:StrsAt w1 a' (nm k).nn (nm k).nm)(i2:IntsAt w1 a'' (nm k).nk (nm k).kd)(f1:Frm wr.heap.size a')(f2:Frm wr.heap.size a''):
  ∃cur',PartsRel (w1.setCells g (k*10) [.int .i64 (nm k).kind,.int .i64 (nm k).frm,.int .i64 (nm k).tto,.int .i64 (nm k).line,.int .i64 (nm k).op,.int .i64 (nm k).num,.float .f64 (nm k).flt,.string (nm k).text,.slice a' (nm k).nn (nm k).nn,.slice a'' (nm k).nk (nm k).nk]) g n (k+1) nm (fun i=>if i=k then ⟨(nm k).toPD,a',(nm k).nn,a'',(nm k).nk⟩ else nm' i) cur':=by
 obtain ⟨h1,h2,h3,h4,h5,h6⟩:=R
 have hlt:=h1.lt
 refine ⟨_,Blk.setL _ _ _ (k*10) (h1.onw hb),?_,?_,?_,?_,?_⟩
 ·rw[size_setL];exact h2
 ·exact J193
 ·exact J104
 ·exact J82
 ·exact J125
theorem OwnB.setL {q:Nat}:∀(vs:List Value) (w:World) (o:Nat),OwnB w q e n->OwnB (w.setCells g o vs) q e n
 | [],_,_,h=>h
 |v::vs,_,o,h=>OwnB.setL vs _ (o+1) (h.set g o v)
def OwnK (w:World) (lo k:Nat) (nm:Nat->PM):Prop:=∀i,i < k->(∃q,(nm i).na=some ⟨q,0,none⟩/\lo<=q/\OwnB w q 9 (nm i).nn)/\∃q,(nm i).ka=some ⟨q,0,none⟩/\lo<=q/\OwnB w q 3 (nm i).nk
theorem OwnK.map {lo k:Nat}(h:OwnK w lo k nm)(f:∀q e n,OwnB w q e n->OwnB w' q e n):OwnK w' lo k nm:=fun i hi=>by
 obtain ⟨⟨q,a,b,c⟩,q',a',b',c'⟩:=h i hi
 exact ⟨⟨q,a,b,f _ _ _ c⟩,q',a',b',f _ _ _ c'⟩
theorem toPartS_own (a:Option Addr)(n c:Nat)(nm:Nat->PM)(w:World)(hn:n<=1048576)(hs:∀i,i < n->(nm i).nn<=1048576/\(nm i).nk<=1048576)(ha:PartsAt w a n nm):
  Calls Tryz.prog 16 #[.slice a n c] w fun e w'=>∃g nm',e= .returned (.slice (some ⟨g,0,none⟩) n n)/\Onw w w'/\PartsAt w' (some ⟨g,0,none⟩) n nm'/\(∀i,(nm' i).toPD=(nm i).toPD)/\Frm w.heap.size (some ⟨g,0,none⟩)/\(∀i,i < n->(nm' i).Frm w.heap.size)/\TreeOwn w' (w.heap.size<=·) g n nm':=by
 have hmk:=run_make_parts n hn
 go_enter Tryz.func16,Tryz.ntmps16
 go_wp2
 go_loopw [4] (fun i wr=>∃k:Nat,k<=n/\i= .int .i64 k/\Onw w wr/\∃nm' cur,PartsRel wr w.heap.size n k nm nm' cur/\OwnK wr w.heap.size k nm') (fun i _=>n-(intOf i).toNat)
 case atStart=>exact ⟨0,Nat.zero_le _,rfl,Onw.alloc _ _,nm,_,⟨Blk.new _ _ _,by simp[size_madeCells],fun i=>rfl,fun i hi=>by omega,fun i hi=>by omega,fun i hi=>by omega⟩,fun i hi=>absurd hi (Nat.not_lt_zero _)⟩
 case round=>
  obtain ⟨k,hk,rfl,hb,nm',cur,R,hW⟩:=hrel
  have HW:Hid _:=hW
  clear hW
  clear hmk
  by_cases hlt:k < n
  ·obtain ⟨b,off,rfl,hc⟩:=(ha.onw hb).1 Zo
   obtain ⟨c0,c1,c2,c3,c4,c5,c6,c7,c8,c9⟩:=hc k hlt
   have hsk:=hs k hlt
   have HS:Hid _:=hs
   clear hc hs
   go_wp2_with fail
   refine (toPart_own (nm k) _ hsk.1 hsk.2 ((ha.2 k hlt).onw hb)).mono ?_
   rintro e w1 ⟨qa,qb,rfl,hb1,i1,i2,f1',f2',own1,own2⟩
   have f1:Frm _ (some ⟨qa,0,none⟩):=fun x hx=>by cases hx;exact f1'
   have f2:Frm _ (some ⟨qb,0,none⟩):=fun x hx=>by cases hx;exact f2'
   have HW1:Hid _:=own1
   have HW2:Hid _:=own2
   have HF1:Hid _:=f1'
   have HF2:Hid _:=f2'
   have HB1:Hid _:=hb1
   clear own1 own2
   have hbl1:=R.blk.onw hb1
   have hf:=hbl1.free
   have hz:w.heap.size < w1.heap.size:=hbl1.lt
   obtain ⟨cur',R'⟩:=R.step2 hlt hb1 _ _ i1 i2 f1 f2
   have HR':Hid _:=R'
   have zr:Hid _:=R.blk.lt
   clear R' f1 f2 f1' f2'
   have hsz:=R.size
   obtain ⟨x0,g0⟩:=hbl1.some (j:=k*10) Zo
   obtain ⟨x1,g1⟩:=hbl1.some (j:=k*10+1) Zo
   obtain ⟨x2,g2⟩:=hbl1.some (j:=k*10+2) Zo
   obtain ⟨x3,g3⟩:=hbl1.some (j:=k*10+3) Zo
   obtain ⟨x4,g4⟩:=hbl1.some (j:=k*10+4) Zo
   obtain ⟨x5,g5⟩:=hbl1.some (j:=k*10+5) Zo
   obtain ⟨x6,g6⟩:=hbl1.some (j:=k*10+6) Zo
   obtain ⟨x7,g7⟩:=hbl1.some (j:=k*10+7) Zo
   obtain ⟨x8,g8⟩:=hbl1.some (j:=k*10+8) Zo
   obtain ⟨x9,g9⟩:=hbl1.some (j:=k*10+9) Zo
   clear c0 c1 c2 c3 c4 c5 c6 c7 c8 c9 hsz
   go_wp2_with fail
   go_roundw
   case rel=>
    refine ⟨k+1,by omega,by go_num,below_setL (Nat.le_refl _) [_,_,_,_,_,_,_,_,_,_] _ _ (k*10) (hb.trans hb1),_,cur',HR'.out,fun i hi=>?_⟩
    have hw0:w.heap.size < wr.heap.size:=zr.out
    by_cases e:i=k
    ·subst e
     simp only[if_true]
     exact ⟨⟨qa,rfl,by have:=HF1.out;omega,OwnB.setL [_,_,_,_,_,_,_,_,_,_] _ _ HW1.out⟩,qb,rfl,by have:=HF2.out;omega,OwnB.setL [_,_,_,_,_,_,_,_,_,_] _ _ HW2.out⟩
    ·simp only[if_neg e]
     exact OwnK.map HW.out (fun q e n h=>OwnB.setL [_,_,_,_,_,_,_,_,_,_] _ _ (h.onw HB1.out)) i Zo
   case measure=>simp[intOf];omega
  ·go_wp2
   go_ret
   have:k=n:=Zo
   subst this
   exact ⟨_,nm',rfl,hb,⟨fun _=>⟨_,0,rfl,fun i hi=>by rw[Nat.zero_add];exact (R.cells i hi).cells R.blk⟩,R.lies⟩,R.data,fun x hx=>by cases hx;exact Nat.le_refl _,fun i hi=>(R.frm i hi).mono Zo,Nat.le_refl _,⟨cur,R.blk,R.size⟩,fun i hi=>(R.blk.cell _).trans (R.cells i hi 8 Zo),fun i hi=>(R.blk.cell _).trans (R.cells i hi 9 Zo),fun i hi=>(HW.out i hi).1,fun i hi=>(HW.out i hi).2⟩
theorem TreeOwn.mono {P Q:Nat->Prop}(h:TreeOwn w P g np pm)(hq:∀k,P k->k < w.heap.size->Q k):TreeOwn w Q g np pm:=by
 have lt:∀{q e n},OwnB w q e n->q < w.heap.size:=fun h=>by
  obtain ⟨cur,B,_⟩:=h
  exact B.lt
 refine ⟨hq _ h.pg (lt h.own),h.own,h.c8,h.c9,fun i hi=>?_,fun i hi=>?_⟩
 ·obtain ⟨q,a,b,c⟩:=h.names i hi
  exact ⟨q,a,hq _ b (lt c),c⟩
 ·obtain ⟨q,a,b,c⟩:=h.kids i hi
  exact ⟨q,a,hq _ b (lt c),c⟩
theorem TreeOwn.set (h:TreeOwn w P g np pm)(hb:b≠g)(v:Value):TreeOwn (w.setCell ⟨b,o,none⟩ v) P g np pm:=by
 have K:=ksc w b o v
 refine ⟨h.pg,h.own.set b o v,fun i hi=>(K.cell (fun e=>hb e.symm)).trans (h.c8 i hi),fun i hi=>(K.cell (fun e=>hb e.symm)).trans (h.c9 i hi),fun i hi=>?_,fun i hi=>?_⟩
 ·obtain ⟨q,a,b',c⟩:=h.names i hi
  exact ⟨q,a,b',c.set b o v⟩
 ·obtain ⟨q,a,b',c⟩:=h.kids i hi
  exact ⟨q,a,b',c.set b o v⟩
theorem toTree_own (m:TM)(w:World)(hn:m.np<=1048576)(hs:∀i,i < m.np->(m.pm i).Small)(ha:m.At w):
  Calls Tryz.prog 6 #[.agg #[.slice m.pa m.np m.pc]] w fun e w'=>∃m':TM,e= .returned (.agg #[.slice m'.pa m'.np m'.pc])/\Onw w w'/\m'.At w'/\m'.toTD=m.toTD/\m'.np=m.np/\m'.np<=m'.pc/\(∀i,i < m'.np->((m'.pm i).nn<=(m'.pm i).nc/\(m'.pm i).nk<=(m'.pm i).kc))/\∃g,m'.pa=some ⟨g,0,none⟩/\TreeOwn w' (fun b=>w.heap.size<=b/\b < w'.heap.size) g m'.np m'.pm:=by
 have HS:Hid _:=hs
 clear hs
 go_enter Tryz.func6,Tryz.ntmps6
 go_wp2_with fail
 refine (toPartS_own _ _ _ m.pm _ hn HS.out (by exact PartsAt.onw (((Onw.alloc _ _).trans (Onw.alloc _ _)).trans (Onw.alloc _ _)) ha)).mono ?_
 rintro e w1 ⟨g,fm',rfl,hb1,hi1,hd,hf3,hg3,hW⟩
 have HW:Hid _:=hW
 have hgg:w.heap.size+1+1+1<=g:=by have:=hW.pg;simp at this;omega
 have HGG:Hid _:=hgg
 clear hW hgg
 have ob:Onw w w1:=Onw.trans (((Onw.alloc _ _).trans (Onw.alloc _ _)).trans (Onw.alloc _ _)) hb1
 have B1:=Blk.onw ((Onw.alloc _ _).trans hb1) (Blk.new _ 30 _)
 have B2:=Blk.onw hb1 (Blk.new _ 30 _)
 have hz:w.heap.size+1+1 < w1.heap.size:=J299
 simp only[World.size_alloc] at B1 B2 hf3 hg3
 have HD:Hid _:=hd
 have HG:Hid _:=hg3
 clear hb1 hd hg3
 have c2:=B2.cell
 have f2:=B2.free
 have c1:=B1.cell
 have f1:=B1.free
 go_wp2_with fail
 refine bodyPost_ret (v:= .agg #[.slice (some ⟨g,0,none⟩) m.np m.np]) (by simp[results,Tryz.results6,go_sem,c1]) rfl ⟨⟨m.np,fm',some ⟨g,0,none⟩,m.np⟩,rfl,?_,?_,by simp only[TM.toTD];congr 1;funext i;exact HD.out i,rfl,Nat.le_refl _,fun i hi=>(HG.out i hi).2.2,g,rfl,?_⟩
 ·exact bset (bset ob Zo _) Zo _
 ·exact J110
 ·have T0:TreeOwn w1 (w.heap.size<=·) g m.np fm':=HW.out.mono (fun k hk _=>by
   have hk':=hk
   simp only[World.size_alloc] at hk'
   show _<=_
   omega)
  refine TreeOwn.mono (P:=(w.heap.size<=·)) ?_ (fun k hk hl=>⟨hk,hl⟩)
  refine TreeOwn.set (TreeOwn.set T0 ?_ _) ?_ _
  all_goals (have:=HGG.out;omega)
end Go.Proofs.YtlibofjbhhdjdaaGreat
