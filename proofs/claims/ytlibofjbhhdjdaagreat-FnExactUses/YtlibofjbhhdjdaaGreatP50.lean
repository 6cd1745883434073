import Derived.Test.YtlibofjbhhdjdaaGreatQ
import Derived.Test.YtlibofjbhhdjdaaGreatP44
import Derived.Test.YtlibofjbhhdjdaaGreatP46
import Derived.Test.YtlibofjbhhdjdaaGreatP45
import Derived.Test.YtlibofjbhhdjdaaGreatP49
import Derived.Test.YtlibofjbhhdjdaaGreatP42
import Derived.Test.YtlibofjbhhdjdaaGreatP07
import Derived.Test.YtlibofjbhhdjdaaGreatP02
set_option linter.unusedSimpArgs false
set_option maxRecDepth 100000
set_option maxHeartbeats 16000000
namespace Go.Proofs.YtlibofjbhhdjdaaGreat
open Go.RowKit
theorem plain_T {k:Int}(h1:k≠1)(h2:k≠2)(h3:k≠3)(h4:k≠4)(h9:k≠9)(h10:k≠10)(h14:k≠14)(h26:k≠26)(h36:k≠36):
  partT k≠129/\partT k≠131/\partT k≠133/\partT k≠134/\partT k≠135/\partT k≠136/\partT k≠137/\partT k≠140/\partT k≠141:=by
 unfold partT
 rw[if_neg h1,if_neg h2,if_neg h3,if_neg h4]
 by_cases e5:k=5
 ·rw[if_pos e5];decide
 rw[if_neg e5]
 by_cases e6:k=6
 ·rw[if_pos e6];decide
 rw[if_neg e6]
 by_cases e16:k=16
 ·rw[if_pos e16];decide
 rw[if_neg e16]
 by_cases e7:k=7
 ·rw[if_pos e7];decide
 rw[if_neg e7]
 by_cases e8:k=8
 ·rw[if_pos e8];decide
 rw[if_neg e8,if_neg h9,if_neg h10]
 by_cases e11:k=11
 ·rw[if_pos e11];decide
 rw[if_neg e11]
 by_cases e12:k=12
 ·rw[if_pos e12];decide
 rw[if_neg e12]
 by_cases e13:k=13
 ·rw[if_pos e13];decide
 rw[if_neg e13,if_neg h14]
 by_cases e15:k=15
 ·rw[if_pos e15];decide
 rw[if_neg e15]
 by_cases e20:k=20
 ·rw[if_pos e20];decide
 rw[if_neg e20]
 by_cases e21:k=21
 ·rw[if_pos e21];decide
 rw[if_neg e21]
 by_cases e22:k=22
 ·rw[if_pos e22];decide
 rw[if_neg e22]
 by_cases e23:k=23
 ·rw[if_pos e23];decide
 rw[if_neg e23]
 by_cases e24:k=24
 ·rw[if_pos e24];decide
 rw[if_neg e24]
 by_cases e25:k=25
 ·rw[if_pos e25];decide
 rw[if_neg e25]
 rw[if_neg h26]
 by_cases e27:k=27
 ·rw[if_pos e27];decide
 rw[if_neg e27]
 by_cases e28:k=28
 ·rw[if_pos e28];decide
 rw[if_neg e28]
 by_cases e29:k=29
 ·rw[if_pos e29];decide
 rw[if_neg e29]
 by_cases e30:k=30
 ·rw[if_pos e30];decide
 rw[if_neg e30]
 by_cases e31:k=31
 ·rw[if_pos e31];decide
 rw[if_neg e31]
 by_cases e32:k=32
 ·rw[if_pos e32];decide
 rw[if_neg e32]
 by_cases e33:k=33
 ·rw[if_pos e33];decide
 rw[if_neg e33]
 by_cases e34:k=34
 ·rw[if_pos e34];decide
 rw[if_neg e34]
 by_cases e35:k=35
 ·rw[if_pos e35];decide
 rw[if_neg e35]
 rw[if_neg h36]
 by_cases e37:k=37
 ·rw[if_pos e37];decide
 rw[if_neg e37]
 by_cases e40:k=40
 ·rw[if_pos e40];decide
 rw[if_neg e40]
 by_cases e41:k=41
 ·rw[if_pos e41];decide
 rw[if_neg e41]
 by_cases e42:k=42
 ·rw[if_pos e42];decide
 rw[if_neg e42]
 decide
theorem read_ok {w0:World}{rp np:Nat}{pm:Nat->PM}{pk:Nat->Option Addr}{sz:Nat->Nat}(pc:PcAt w0 np pm pk)(sh:∀i,i < np->ShapeAt pm i)(hz:∀i,i < np->psum sz (pm i).kd (pm i).nk+1<=sz i):∀i,i < np->ReadOk w0 rp pm pk sz i:=by
 intro i
 induction i using Nat.strongRecOn with
 |ind i ih=>
  intro hi w v us s r l h lv hl hm hf hb
  have S:=sh i hi
  have K:(pdOf pm i).kind=(pm i).kind:=rfl
  have KN:(pdOf pm i).nk=(pm i).nk:=rfl
  have lt:∀q,q < (pm i).nk->((pm i).kd q).toNat < i:=fun q hq=>by have:=pc.kid i hi q hq;omega
  have ok:∀j,j < (pm i).nk->ReadOk w0 rp pm pk sz ((pm i).kd j).toNat:=fun j hj=>ih _ (lt j hj) (by have:=lt j hj;omega)
  have LEN:∀j,j < (pm i).nk->∀sc,(wE (pdOf pm) l ((pm i).kd j).toNat sc).1.length<=sz ((pm i).kd j).toNat:=fun j hj sc=>wE_len pc.kid sh hz _ (by have:=lt j hj;omega) l sc
  have F:∀j,j < (pm i).nk->∀c∈s::r,(((pm i).kd j).toNat:Int) < c.fn:=fun j hj c hc=>by have:=(hf c hc).1;have:=lt j hj;omega
  have Z:us.length+psum sz (pm i).kd (pm i).nk<=1048576:=by have:=hz i hi;omega
  have V:=pc.at_ hi
  have ST:=pc.strs i hi
  obtain ⟨n1,n2⟩:=pc.slim i hi
  have kn:=pc.kn hi
  have PV:pv (some (pxOf pm pk i))= .iface (partT (pm i).kind) (.agg #[.int .i64 i,.int .i64 (pm i).kind,.int .i64 (pm i).frm,.int .i64 (pm i).tto,.int .i64 (pm i).line,.int .i64 (pm i).op,.int .i64 (pm i).num,.float .f64 (pm i).flt,.string (pm i).text,.slice (pm i).na (pm i).nn (pm i).nc,.slice (pm i).ka (pm i).nk (pm i).kc,.slice (pk i) (pm i).nk (pm i).nk]):=by
   show Value.iface (ptT (pm i).toPD) (.agg #[.int .i64 i,.int .i64 (pm i).kind,.int .i64 (pm i).frm,.int .i64 (pm i).tto,.int .i64 (pm i).line,.int .i64 (pm i).op,.int .i64 (pm i).num,.float .f64 (pm i).flt,.string (pm i).text,.slice (pm i).na (pm i).nn (pm i).nc,.slice (pm i).ka (pm i).nk (pm i).kc,.slice (pk i) (knP (pm i).toPD) (knP (pm i).toPD)])=_
   rw[kn]
   unfold ptT
   rw[if_pos (show slimP (pm i).toPD from ⟨n1,n2⟩)]
  have plainK:=fun h1:(pm i).kind≠1=>kids_plain pc.kid sh hi h1
  rw[wE_at pc.kid sh hi l (rflat (s::r))]
  unfold partE
  rw[K,KN]
  by_cases k1:(pm i).kind=1
  ·rw[if_neg Zo,if_neg Zo,if_neg Zo,if_neg Zo,if_neg Zo,if_neg Zo,PV,show partT (pm i).kind=129 by rw[k1];rfl]
   exact read_block (pm i) i (pk i) n1 V ok h lv hl F Z LEN
  obtain ⟨mb,hmb⟩:∃mb,s.mb=some mb:=by
   cases e:s.mb with
   |none=>exact absurd (hm e) k1
   |some b=>exact ⟨b,rfl⟩
  have same:=seq_same pc.kid sh l (pm i).kd (pm i).nk (rflat (s::r)) (plainK k1)
  by_cases k26:(pm i).kind=26
  ·rw[if_pos k26,PV,show partT (pm i).kind=141 by rw[k26];rfl]
   exact read_name (pm i) i (pk i) h lv hl (by have:=hz i hi;omega)
  rw[if_neg k26]
  by_cases k2:(pm i).kind=2
  ·rw[if_pos k2,PV,show partT (pm i).kind=131 by rw[k2];rfl]
   exact read_let (pm i) i (pk i) n1 n2 ST hmb same V ok h lv hl F Z LEN
  rw[if_neg k2]
  by_cases k3:(pm i).kind=3
  ·rw[if_pos k3,PV,show partT (pm i).kind=133 by rw[k3];rfl]
   exact read_const (pm i) i (pk i) n1 n2 ST hmb same V ok h lv hl F Z LEN
  rw[if_neg k3]
  by_cases k4:(pm i).kind=4
  ·rw[if_pos k4,PV,show partT (pm i).kind=134 by rw[k4];rfl]
   exact read_ownFn (pm i) i (pk i) n1 n2 ST hmb (seq_same pc.kid sh l (pm i).kd (pm i).nk _ (plainK k1)) V ok h lv hl F Z LEN
  rw[if_neg k4]
  by_cases k9:(pm i).kind=9\/(pm i).kind=10\/(pm i).kind=14
  ·rw[if_pos k9]
   obtain ⟨n,hn⟩:∃n,(pm i).nk=n+1:=⟨(pm i).nk-1,by
    rcases k9 with e|e|e
    ·have:=S.for_ e;omega
    ·have:=S.each e;omega
    ·have:=S.try_ e;omega⟩
   have same':=seq_same pc.kid sh l (pm i).kd n (rflat (s::r)) (fun q hq=>plainK k1 q Zo)
   have PV2:pv (some (pxOf pm pk i))= .iface (partT (pm i).kind) (.agg #[.int .i64 i,.int .i64 (pm i).kind,.int .i64 (pm i).frm,.int .i64 (pm i).tto,.int .i64 (pm i).line,.int .i64 (pm i).op,.int .i64 (pm i).num,.float .f64 (pm i).flt,.string (pm i).text,.slice (pm i).na (pm i).nn (pm i).nc,.slice (pm i).ka (pm i).nk (pm i).kc,.slice (pk i) (n+1) (n+1)]):=by rw[PV,<-hn]
   rw[hn] at V ok F Z LEN n1 plainK
   rw[PV2,show (pm i).nk-1=n by omega]
   rcases k9 with e|e|e
   ·rw[show partT (pm i).kind=135 by rw[e];rfl]
    exact read_for (pm i) i (pk i) n n1 n2 ST hmb same' V ok h lv hl F Z LEN
   ·rw[show partT (pm i).kind=136 by rw[e];rfl]
    exact read_each (pm i) i (pk i) n n1 n2 ST hmb same' V ok h lv hl F Z LEN
   ·rw[show partT (pm i).kind=137 by rw[e];rfl]
    exact read_try (pm i) i (pk i) n n1 n2 ST hmb same' V ok h lv hl F Z LEN
  rw[if_neg k9]
  by_cases k36:(pm i).kind=36
  ·rw[if_pos k36]
   have hn:(pm i).nk=0+1:=(S.fn k36).1
   have l0:=lt 0 Zo
   have PV2:pv (some (pxOf pm pk i))= .iface (partT (pm i).kind) (.agg #[.int .i64 i,.int .i64 (pm i).kind,.int .i64 (pm i).frm,.int .i64 (pm i).tto,.int .i64 (pm i).line,.int .i64 (pm i).op,.int .i64 (pm i).num,.float .f64 (pm i).flt,.string (pm i).text,.slice (pm i).na (pm i).nn (pm i).nc,.slice (pm i).ka (pm i).nk (pm i).kc,.slice (pk i) (0+1) (0+1)]):=by rw[PV,<-hn]
   rw[hn] at V ok F Z LEN n1 plainK
   rw[PV2,show (pm i).nk-1=0 by omega,show partT (pm i).kind=140 by rw[k36];rfl]
   exact read_fn (pm i) i (pk i) 0 n1 n2 ST hmb rfl V ok h lv hl F Z LEN Zo (fun c hc=>(hf c hc).2 k36)
  rw[if_neg k36,PV]
  have e:seqE (fun k sc=>wE (pdOf pm) l k sc) (pm i).kd 0 (pm i).nk (rflat (s::r))=((seqE (fun k sc=>wE (pdOf pm) l k sc) (pm i).kd 0 (pm i).nk (rflat (s::r))).1,rflat (s::r)):=Prod.ext rfl same
  obtain ⟨t1,t2,t3,t4,t5,t6,t7,t8,t9⟩:=plain_T k1 k2 k3 k4 (fun e=>k9 (Or.inl e)) (fun e=>k9 (Or.inr (Or.inl e))) (fun e=>k9 (Or.inr (Or.inr e))) k26 k36
  have T:ptT (pm i).toPD=partT (pm i).kind:=by unfold ptT;rw[if_pos (show slimP (pm i).toPD from ⟨n1,n2⟩)]
  have:=read_plain (pm i) i (pk i) _ _ T t1 t2 t3 t4 t5 t6 t7 t8 t9 n1 hmb V ok h lv hl F Z LEN
  rw[show seqE (wE (pdOf pm) l) (pm i).kd 0 (pm i).nk (rflat (s::r))=_ from e] at this
  exact this
end Go.Proofs.YtlibofjbhhdjdaaGreat
namespace Go.Proofs.YtlibofjbhhdjdaaGreat
open Go.RowKit
attribute [local go_sem] rsf
variable {ab lo n:Nat} {sz:Nat->Nat} {pk:Nat->Option Addr} {pm:Nat->PM} {v:Value} {w w0:World}
theorem soundPieces_any (t:TM)(w:World)(hn:t.np<=1048576)(hs:∀i,i < t.np->(t.pm i).Slight)(ht:t.At w):
  Calls Tryz.prog 18 #[.agg #[.slice t.pa t.np t.pc]] w fun e w'=>Onw w w'/\((specT (pdOf t.pm) t.np≠(0,0)/\e= .returned (.slice none 0 0))\/(specT (pdOf t.pm) t.np=(0,0)/\∃lo ab pk,e= .returned (.slice (some ⟨ab,0,none⟩) t.np t.np)/\PiecesAt w' lo ab t.np t.pm pk)):=by
 have HS:Hid _:=hs
 have HA:Hid _:=ht
 clear hs ht
 have N0:=Blk.new w 30 #[.slice t.pa t.np t.pc]
 have O0:=Onw.alloc w (Obj.cells #[.slice t.pa t.np t.pc] 30)
 obtain ⟨i,hi⟩:∃i,(specT (pdOf t.pm) t.np).1=i:=⟨_,rfl⟩
 obtain ⟨j,hj⟩:∃j,(specT (pdOf t.pm) t.np).2=j:=⟨_,rfl⟩
 have HE:Hid (specT (pdOf t.pm) t.np=(i,j)):=Prod.ext hi hj
 have HI:Hid _:=hi
 have HJ:Hid _:=hj
 clear hi hj
 go_enter Tryz.func18,Tryz.ntmps18
 go_wp2_with fail
 refine (implTree_any t _ hn HS.out (TM.At.onw O0 HA.out)).mono ?_
 rintro e w1 ⟨rfl,O1⟩
 rw[HI.out,HJ.out]
 replace N0:=N0.onw O1
 have o1:=Onw.trans O0 O1
 clear O0 O1
 have n0:=Blk.at_ N0 0 rfl
 have z0:=N0.lt
 by_cases e1:i=0
 ·by_cases e2:j=0
  ·subst e1 e2
   go_wp2_with fail
   refine (piecesOf_any t.np t.pm t.pa t.pc _ hn (TM.At.onw o1 HA.out)).mono ?_
   rintro e w2 ⟨ab,pk,rfl,O2,P2⟩
   have HP:Hid _:=P2
   clear P2
   go_wp2_with fail
   go_ret
   exact ⟨o1.trans O2,Or.inr ⟨HE.out,_,ab,pk,rfl,HP.out⟩⟩
  ·have hne:Hid (specT (pdOf t.pm) t.np≠(0,0)):=fun h=>e2 (by rw[HE.out] at h;exact (Prod.ext_iff.1 h).2)
   exact J199
 ·have hne:Hid (specT (pdOf t.pm) t.np≠(0,0)):=fun h=>e1 (by rw[HE.out] at h;exact (Prod.ext_iff.1 h).1)
  exact J199
theorem RdAt.first :RdAt w0 (w0.alloc (.cells #[.pointer none,.slice none 0 0,.nilFunc] 83)) w0.heap.size (.slice none 0 0) [] []:=
 ⟨Onw.alloc _ _,Blk.new _ _ _,World.ownsRow_nil _ _ _ _,by simp,trivial,Nat.le_refl _,by simp⟩
theorem readText_any {rp n:Nat}{us:List (List Value)}(h:RdAt w0 w rp v us [])(hp:PiecesAt w0 lo ab (n+1) pm pk)(hn:n+1<=1048576)(sl:(pm n).nk<=200/\(pm n).nn<=200)(hk:(pm n).kind=1)(ok:ReadOk w0 rp pm pk sz n)(hz:us.length+sz n<=1048576):
  Calls Tryz.prog 28 #[.pointer (some ⟨rp,0,none⟩),.slice (some ⟨ab,0,none⟩) (n+1) (n+1)] w fun e w'=>e= .returned (.tuple #[])/\∃v' ch,RdAt w0 w' rp v' (us++(wE (pdOf pm) 0 n []).1) ch:=by
 have HH:Hid _:=h
 have HOK:Hid _:=ok
 have HZ:Hid _:=hz
 have HKD:Hid _:=hk
 have PV:pv (some (pxOf pm pk n))= .iface 129 (.agg #[.int .i64 n,.int .i64 (pm n).kind,.int .i64 (pm n).frm,.int .i64 (pm n).tto,.int .i64 (pm n).line,.int .i64 (pm n).op,.int .i64 (pm n).num,.float .f64 (pm n).flt,.string (pm n).text,.slice (pm n).na (pm n).nn (pm n).nc,.slice (pm n).ka (pm n).nk (pm n).kc,.slice (pk n) (pm n).nk (pm n).nk]):=by
  show Value.iface (ptT (pm n).toPD) (.agg #[.int .i64 n,.int .i64 (pm n).kind,.int .i64 (pm n).frm,.int .i64 (pm n).tto,.int .i64 (pm n).line,.int .i64 (pm n).op,.int .i64 (pm n).num,.float .f64 (pm n).flt,.string (pm n).text,.slice (pm n).na (pm n).nn (pm n).nc,.slice (pm n).ka (pm n).nk (pm n).kc,.slice (pk n) (knP (pm n).toPD) (knP (pm n).toPD)])=_
  unfold ptT knP
  rw[if_pos (show slimP (pm n).toPD from sl),if_pos (show slimP (pm n).toPD from sl)]
  rw[show partT (pm n).toPD.kind=129 by rw[show (pm n).toPD.kind=1 from hk];rfl]
 have HPV:Hid _:=PV
 have c0:w.cell? ⟨ab,n,none⟩=some (.iface 129 (.agg #[.int .i64 n,.int .i64 (pm n).kind,.int .i64 (pm n).frm,.int .i64 (pm n).tto,.int .i64 (pm n).line,.int .i64 (pm n).op,.int .i64 (pm n).num,.float .f64 (pm n).flt,.string (pm n).text,.slice (pm n).na (pm n).nn (pm n).nc,.slice (pm n).ka (pm n).nk (pm n).kc,.slice (pk n) (pm n).nk (pm n).nk])):=by rw[<-PV];exact con h.on (hp n Zo).1
 have zc:=clt c0
 have b0:=Blk.at_ h.blk 0 rfl
 have fr:=h.blk.free
 have zr:=clt b0
 have mt:=meth_top_block
 unfold MethOk at mt
 have fp:=field_place
 have n0:(0:Int)<=(n:Int):=Zo
 have n1:((n:Int)+1==0)=false:=Zj
 clear h ok hz hk PV hp sl
 go_enter Tryz.func28,Tryz.ntmps28
 go_wp2_with fail
 refine (top_any (pm n) n (pk n) _ _ _).mono ?_
 rintro e w1 ⟨rfl,O1⟩
 have c1:=con O1 b0
 have HH1:Hid _:=HH.out.onw O1
 have fr1:=(HH.out.onw O1).blk.free
 have zr1:=clt c1
 clear b0 fr zr O1 c0 zc
 go_wp2_with fail
 rw[<-World.setCell_alloc_past _ _ _ _ zr1,<-HPV.out]
 have R2:RdAt w0 ((w1.alloc (Obj.cells #[.pointer none,.int .i64 n,.map none] 108)).setCell ⟨rp,0,none⟩ (.pointer (some ⟨w1.heap.size,0,none⟩))) rp v us [⟨w1.heap.size,none,n,0, []⟩]:=
  RdAt.ptr (ch':= [⟨w1.heap.size,none,n,0, []⟩]) (HH1.out.onw (Onw.alloc w1 _)) ⟨Blk.new w1 _ _,rfl,by simp,by simp,trivial⟩ (fun c hc b hb=>by
   rw[List.mem_singleton] at hc
   rw[hc] at hb
   cases hb)
 generalize (w1.alloc (Obj.cells #[.pointer none,.int .i64 n,.map none] 108)).setCell ⟨rp,0,none⟩ (.pointer (some ⟨w1.heap.size,0,none⟩))=w2 at*
 refine (HOK.out w2 v us _ [] 0 R2 ⟨fun c hc=>?_,fun c hc d hd=>?_,fun c hc x hx=>?_⟩ rfl (fun _=>HKD.out) (fun c hc=>?_) HZ.out).mono ?_
 ·rw[List.mem_singleton] at hc;rw[hc];exact Nat.le_refl _
 ·rw[List.mem_singleton] at hc hd;rw[hc,hd];exact ⟨fun _=>rfl,fun _=>rfl⟩
 ·rw[List.mem_singleton] at hc;rw[hc] at hx;simp at hx
 ·rw[List.mem_singleton] at hc;rw[hc]
  exact ⟨Int.le_refl _,fun e=>by rw[HKD.out] at e;omega⟩
 rintro e w3 ⟨rfl,v3,es3,R3,_,_,_⟩
 have HR3:Hid _:=R3
 clear R3 R2
 go_wp2_with fail
 exact bodyPost_end (v:= .tuple #[]) (results_none rfl _ _ _) rfl ⟨rfl,v3,_,HR3.out⟩
theorem usesOf_nil (w:World):Calls Tryz.prog 17 #[.slice none 0 0] w fun e w'=>e= .returned (.slice none 0 0)/\Onw w w':=by
 have N0:=Blk.new w 83 #[.pointer none,.slice none 0 0,.nilFunc]
 have O0:=Onw.alloc w (Obj.cells #[.pointer none,.slice none 0 0,.nilFunc] 83)
 have rt:∀w:World,Calls Tryz.prog 28 #[.pointer (some ⟨w.heap.size,0,none⟩),.slice none 0 0] (w.alloc (Obj.cells #[.pointer none,.slice none 0 0,.nilFunc] 83)) fun e w'=>e= .returned (.tuple #[])/\w'=w.alloc (Obj.cells #[.pointer none,.slice none 0 0,.nilFunc] 83):=fun w=>by
  go_enter Tryz.func28,Tryz.ntmps28
  go_wp2_with fail
  exact bodyPost_ret (v:= .tuple #[]) (results_none rfl _ _ _) rfl ⟨rfl,rfl⟩
 go_enter Tryz.func17,Tryz.ntmps17
 go_wp2_with fail
 refine (rt w).mono ?_
 rintro e w1 ⟨rfl,rfl⟩
 have n1:(w.alloc (Obj.cells #[.pointer none,.slice none 0 0,.nilFunc] 83)).cell? ⟨w.heap.size,1,none⟩=some (.slice none 0 0):=by rw[N0.cell];rfl
 have z0:=N0.lt
 go_wp2_with fail
 go_ret
 exact ⟨rfl,O0⟩
theorem usesOf_any (hp:PiecesAt w lo ab (n+1) pm pk)(hn:n+1<=1048576)(pc:PcAt w (n+1) pm pk)(sh:∀i,i < n+1->ShapeAt pm i)(hz:∀i,i < n+1->psum sz (pm i).kd (pm i).nk+1<=sz i)(hk:(pm n).kind=1)(hs:sz n<=1048576):
  Calls Tryz.prog 17 #[.slice (some ⟨ab,0,none⟩) (n+1) (n+1)] w fun e w'=>∃v',e= .returned v'/\Onw w w'/\w'.ownsRow w.heap.size 58 4 v' (wE (pdOf pm) 0 n []).1.length (wE (pdOf pm) 0 n []).1.flatten/\∀x∈(wE (pdOf pm) 0 n []).1,x.length=4:=by
 have rt:=readText_any (w0:=w) RdAt.first hp hn (pc.slim n Zo) hk (read_ok pc sh hz n Zo) (by simpa using hs)
 clear hp pc sh hz hk hs
 go_enter Tryz.func17,Tryz.ntmps17
 go_wp2_with fail
 refine rt.mono ?_
 rintro e w1 ⟨rfl,v1,ch,R1⟩
 clear rt
 have HR1:Hid _:=R1
 have c1:w1.cell? ⟨w.heap.size,1,none⟩=some v1:=by rw[R1.blk.cell];rfl
 have z1:=clt c1
 clear R1
 go_wp2_with fail
 go_ret
 exact ⟨v1,rfl,HR1.out.on,by simpa using HR1.out.row,by simpa using HR1.out.len⟩
theorem row_form {base base':Nat}{e:TypeId}{c n:Nat}{xs:List Value}(h:w.ownsRow base e c v n xs)(hb:base'<=base):∃va k vc,v= .slice va k vc/\w.ownsRow base' e c (.slice va k vc) n xs:=by
 rcases h.2 with ⟨e1,r⟩|⟨g,cap,cur,e1,hg,r⟩
 ·exact ⟨none,0,0,e1,h.1,Or.inl ⟨rfl,r⟩⟩
 ·exact ⟨_,_,_,e1,h.1,Or.inr ⟨g,cap,cur,rfl,Nat.le_trans hb hg,r⟩⟩
theorem implUses_any {np:Nat}{pa:Option Addr}{pc:Nat}(hn:np<=1048576)(hs:∀i,i < np->(pm i).Slight)(ha:PartsAt w pa np pm):
  Calls Tryz.prog 7 #[.agg #[.slice pa np pc]] w fun e w'=>∃va n vc,e= .returned (.slice va n vc)/\Onw w w'/\w'.ownsRow w.heap.size 58 4 (.slice va n vc) (usesE (pdOf pm) np).length (usesE (pdOf pm) np).flatten/\∀x∈usesE (pdOf pm) np,x.length=4:=by
 have HA:Hid _:=ha
 have HS:Hid _:=hs
 clear ha hs
 have N0:=Blk.new w 30 #[.slice pa np pc]
 have O0:=Onw.alloc w (Obj.cells #[.slice pa np pc] 30)
 go_enter Tryz.func7,Tryz.ntmps7
 go_wp2_with fail
 refine (soundPieces_any ⟨np,pm,pa,pc⟩ _ hn HS.out (PartsAt.onw O0 HA.out)).mono ?_
 rintro e w1 ⟨O1,⟨hne,rfl⟩|⟨he,lo,ab,pk,rfl,P1⟩⟩
 ·have o1:=Onw.trans O0 O1
  have HN:Hid _:=hne
  clear hne O0 O1
  go_wp2_with fail
  refine (usesOf_nil _).mono ?_
  rintro e w2 ⟨rfl,O2⟩
  go_wp2_with fail
  go_ret
  have e:usesE (pdOf pm) np= []:=if_neg HN.out
  exact ⟨none,0,0,rfl,o1.trans O2,by rw[e];exact World.ownsRow_nil _ _ _ _,by rw[e];simp⟩
 ·have o1:=Onw.trans O0 O1
  have HE:Hid _:=he
  have HP:Hid _:=P1
  clear he O0 O1 P1
  obtain ⟨tr,sh,h0,hk,hsz⟩:=sound_tr (pc:=pc) (PartsAt.onw o1 HA.out) HE.out
  obtain ⟨n,rfl⟩:∃n,np=n+1:=⟨np-1,by omega⟩
  have PC:PcAt w1 (n+1) pm pk:=⟨fun i hi=>(HP.out i hi).2.1,fun i hi=>((PartsAt.onw o1 HA.out).2 i hi).1,fun i hi=>⟨tr.nkl i hi,tr.nnl i hi⟩,tr.kid⟩
  have hk':(pm n).kind=1:=hk
  have us:=usesOf_any HP.out hn PC sh tr.szs hk' (by have:=tr.szle n (by omega);omega)
  clear PC sh tr hk hk' hsz h0
  go_wp2_with fail
  refine us.mono ?_
  rintro e w2 ⟨v2,rfl,O2,R2,L2⟩
  clear us
  have e:usesE (pdOf pm) (n+1)=(wE (pdOf pm) 0 n []).1:=if_pos HE.out
  obtain ⟨va,k,vc,rfl,R3⟩:=row_form R2 o1.size
  have HR3:Hid _:=R3
  have HL2:Hid _:=L2
  have HEQ:Hid _:=e
  clear R2 R3 L2 e
  go_wp2_with fail
  go_ret
  exact ⟨va,k,vc,rfl,o1.trans O2,by rw[HEQ.out];exact HR3.out,by rw[HEQ.out];exact HL2.out⟩
end Go.Proofs.YtlibofjbhhdjdaaGreat
namespace Go.Proofs.YtlibofjbhhdjdaaGreat
open Go.RowKit
variable {L:List (List Value)} {np:Nat} {pm:Nat->PM} {w:World}
def four (x:List Value):Prop:=∃a b c d:Int,x= [.int .i64 a,.int .i64 b,.int .i64 c,.int .i64 d]
theorem seq_four {kd:Nat->Int}{g:Nat->List Ent->Out}:∀{c:Nat},(∀q,q < c->∀sc,∀x∈(g (kd q).toNat sc).1,four x)->∀sc,∀x∈(seqE g kd 0 c sc).1,four x
 |0,_,_,x,hx=>by simp[seqE] at hx
 |c+1,h,sc,x,hx=>by
  simp only[seqE,Nat.zero_add,List.mem_append] at hx
  rcases hx with hx|hx
  ·exact seq_four (c:=c) (fun q hq=>h q Zo) sc x hx
  ·exact h c Zo _ x hx
theorem wE_four (hk:∀i,i < np->∀j,j < (pm i).nk->0<=(pm i).kd j/\(pm i).kd j < i)(sh:∀i,i < np->ShapeAt pm i):∀i,i < np->∀l sc,∀x∈(wE (pdOf pm) l i sc).1,four x:=by
 intro i
 induction i using Nat.strongRecOn with
 |ind i ih=>
  intro hi l sc
  rw[wE_at hk sh hi]
  have K:(pdOf pm i).kind=(pm i).kind:=rfl
  have lt:∀q,q < (pm i).nk->((pm i).kd q).toNat < i:=fun q hq=>by have:=hk i hi q hq;omega
  have one:∀l q,q < (pm i).nk->∀sc,∀x∈(wE (pdOf pm) l ((pm i).kd q).toNat sc).1,four x:=fun l q hq sc=>ih _ (lt q hq) J323 l sc
  have sq:∀l c,c<=(pm i).nk->∀sc,∀x∈(seqE (wE (pdOf pm) l) (pm i).kd 0 c sc).1,four x:=fun l c hc sc=>seq_four (fun q hq sc=>one l q Zo sc) sc
  have lst:0 < (pm i).nk->∀l sc sc',∀x∈(seqE (wE (pdOf pm) l) (pm i).kd 0 ((pm i).nk-1) sc).1++(wE (pdOf pm) l ((pm i).kd ((pm i).nk-1)).toNat sc').1,four x:=fun h0 l sc sc' x hx=>by
   rcases List.mem_append.1 hx with hx|hx
   ·exact sq l _ Zo sc x hx
   ·exact one l _ Zo sc' x hx
  have S:=sh i hi
  unfold partE
  rw[K]
  by_cases e1:(pm i).kind=26
  ·rw[if_pos e1]
   intro x hx
   rw[List.mem_singleton,useOf_eq] at hx
   exact ⟨_,_,_,_,hx⟩
  rw[if_neg e1]
  by_cases e2:(pm i).kind=2
  ·rw[if_pos e2];exact sq l _ (Nat.le_refl _) sc
  rw[if_neg e2]
  by_cases e3:(pm i).kind=3
  ·rw[if_pos e3];exact sq l _ (Nat.le_refl _) sc
  rw[if_neg e3]
  by_cases e4:(pm i).kind=4
  ·rw[if_pos e4];exact sq l _ (Nat.le_refl _) _
  rw[if_neg e4]
  by_cases e5:(pm i).kind=9\/(pm i).kind=10\/(pm i).kind=14
  ·rw[if_pos e5]
   have n0:0 < (pm i).nk:=by
    exact J156
   exact lst n0 l sc _
  rw[if_neg e5]
  by_cases e6:(pm i).kind=36
  ·rw[if_pos e6]
   have n0:0 < (pm i).nk:=by have:=S.fn e6;omega
   exact lst n0 (l+1) sc _
  rw[if_neg e6]
  exact sq l _ (Nat.le_refl _) sc
theorem usesE_four {pa:Option Addr}(ha:PartsAt w pa np pm):(∀x∈usesE (pdOf pm) np,four x)/\(usesE (pdOf pm) np).length<=3000:=by
 unfold usesE
 by_cases h:specT (pdOf pm) np=(0,0)
 ·rw[if_pos h]
  obtain ⟨tr,sh,h0,_,_⟩:=sound_tr (pc:=0) ha h
  exact ⟨wE_four tr.kid sh _ Zo _ _,Nat.le_trans (wE_len tr.kid sh tr.szs _ Zo _ _) (tr.szle _ Zo)⟩
 ·rw[if_neg h]
  exact ⟨by simp,by simp⟩
def fU (L:List (List Value)) (i j:Nat):Int:=intOf ((L.getD i []).getD j undef)
theorem fU_at (h:∀x∈L,four x){i:Nat}(hi:i < L.length){j:Nat}(hj:j < 4):∃x,L[i]?= some x/\x[j]?= some (.int .i64 (fU L i j)):=by
 refine ⟨L[i],by simp[hi],?_⟩
 obtain ⟨a,b,c,d,e⟩:=h L[i] (List.getElem_mem hi)
 unfold fU
 rw[show L.getD i []=L[i] by simp[List.getD,hi],e]
 rcases (by omega:j=0\/j=1\/j=2\/j=3) with rfl|rfl|rfl|rfl <;> rfl
theorem uses_at {base:Nat}{va:Option Addr}{n vc:Nat}(h4:∀x∈L,four x)(h:w.ownsRow base 58 4 (.slice va n vc) L.length L.flatten):n=L.length/\UsesAt w va L.length (fU L)/\∀x,va=some x->base<=x.block/\x.block < w.heap.size:=by
 have len:∀x∈L,x.length=4:=fun x hx=>by
  obtain ⟨a,b,c,d,e⟩:=h4 x hx
  rw[e];rfl
 rcases h.2 with ⟨e,e0⟩|⟨g,cap,cur,e,hb,hg,h1,h2,h3,h5⟩
 ·simp only[Value.slice.injEq] at e
  obtain ⟨rfl,rfl,rfl⟩:=e
  exact ⟨e0.symm,fun h0=>by omega,fun x hx=>by cases hx⟩
 ·simp only[Value.slice.injEq] at e
  obtain ⟨rfl,rfl,rfl⟩:=e
  refine ⟨rfl,fun _=>⟨g,cur,rfl,hg,fun i hi j hj=>?_⟩,fun x hx=>by cases hx;exact ⟨hb,heap_lt hg⟩⟩
  obtain ⟨x,hx,hv⟩:=fU_at h4 hi hj
  have a:=flatten_at len hx hj
  rw[<-h5,hv,List.getElem?_take] at a
  have:i*4+j < L.length*4:=Zo
  rw[if_pos this] at a
  simpa using a
end Go.Proofs.YtlibofjbhhdjdaaGreat
namespace Go.Proofs.YtlibofjbhhdjdaaGreat
open Go.RowKit
attribute [local go_sem] rsf
theorem UsesAt.chg {p:Nat->Prop}{w w':World}(c:Chg p w w'){a:Option Addr}{n:Nat}{f:Nat->Nat->Int}(ha:∀x,a=some x->¬p x.block)(h:UsesAt w a n f):UsesAt w' a n f:=fun h0=>by
 obtain ⟨g,cur,h1,h2,h3⟩:=h h0
 exact ⟨g,cur,h1,c.blk h2 (ha _ h1),h3⟩
theorem lawUses_any (t:TM)(w:World)(hn:t.np<=140737488351232)(hs:∀i,i < t.np->(t.pm i).Reach)(hr:∀i,i < t.np->RangeI (t.pm i).num)(ha:t.At w):
  Calls Tryz.prog 3 #[.agg #[.slice t.pa t.np t.pc]] w fun e w'=>e= .returned (.bool true)/\Onw w w':=by
 have HS:Hid _:=hs
 have HA:Hid _:=ha
 have HR:Hid _:=hr
 clear hs ha hr
 have N0:=Blk.new w 24 #[.slice t.pa t.np t.pc]
 have O0:=Onw.alloc w (Obj.cells #[.slice t.pa t.np t.pc] 24)
 go_enter Tryz.func3,Tryz.ntmps3
 go_wp2_with fail
 refine (szTree_any t 1048576 _ Zo Zo hn HS.out (TM.At.onw O0 HA.out)).mono ?_
 rintro e w1 ⟨r,rfl,O1,(rfl|⟨p1,q1⟩)⟩
 ·go_wp2_with fail
  go_ret
  exact ⟨rfl,O0.trans O1⟩
 ·have B1:=N0.onw O1
  have o1:Onw w w1:=O0.trans O1
  have hsz:t.sz<=1048576:=Zo
  obtain ⟨s1,s2⟩:=sz_slight hsz
  have S2:Hid _:=s2
  have p1':¬r < 0:=Zo
  obtain ⟨L,hL⟩:∃L,usesE (pdOf t.pm) t.np=L:=⟨_,rfl⟩
  have HL:Hid _:=hL
  have F4:Hid ((∀x∈L,four x)/\L.length<=3000):=by
   have:=usesE_four (w:=w) HA.out
   rw[hL] at this
   exact this
  clear q1 hsz s2 N0 O0 O1 hL
  have b1:=B1.cell
  go_wp2_with fail
  refine (toTree_any t _ s1 (small_of_slight S2.out) (TM.At.onw o1 HA.out)).mono ?_
  rintro e w2 ⟨u2,rfl,O2,a2,e2,n2,g2,c2⟩
  have o2:=o1.trans O2
  have B2:=B1.onw O2
  have E2:Hid _:=e2
  have N2:Hid _:=n2
  have C2:Hid _:=c2
  clear e2 n2 g2 c2 B1 b1 o1 O2
  go_wp2_with fail
  refine (specUses_any (pm:=u2.pm) (pc:=u2.pc) (by have:=N2.out;omega) (slight_td E2.out S2.out) a2 (fun i hi=>(C2.out i hi).2) (fun i hi=>by rw[show (u2.pm i).num=(t.pm i).num from congrArg PD.num ((td_pm E2.out).2 i)];exact HR.out i (by have:=N2.out;omega))).mono ?_
  rintro e w3 ⟨va,n,vc,rfl,O3,row3,l3⟩
  rw[td_pd E2.out,N2.out,HL.out] at row3
  obtain ⟨rfl,U3,v3⟩:=uses_at F4.out.1 row3
  have o3:=o2.trans O3
  have B3:=B2.onw O3
  have HU3:Hid _:=U3
  have HV3:Hid (∀x,va=some x->x.block < w3.heap.size):=fun x hx=>(v3 x hx).2
  clear B2 o2 O3 a2 E2 N2 C2 row3 U3 v3 l3
  have b3:=B3.cell
  have z3:=B3.lt
  go_wp2_with fail
  have Z03:Hid (w.heap.size < w3.heap.size):=z3
  refine (toTree_own t _ s1 (small_of_slight S2.out) (TM.At.onw o3 HA.out)).mono ?_
  rintro e w5 ⟨⟨np5,pm5,pa5,pc5⟩,rfl,O5,a5,e5,n5,g5,c5,gx,ea5,T5⟩
  simp only at a5 n5 g5 c5 ea5 T5
  subst ea5
  have o5:=o3.trans O5
  have B5:=B3.onw O5
  have E5:Hid _:=e5
  have N5:Hid _:=n5
  have T5':Hid _:=T5
  have A5:Hid _:=a5
  have HU5:Hid (UsesAt w5 va L.length (fU L)):=UsesAt.onw O5 HU3.out
  have Z35:Hid _:=O5.size
  clear e5 n5 g5 c5 T5 a5 B3 o3 O5 b3 z3 HU3
  go_wp2_with fail
  have O6:=Onw.alloc w5 (Obj.cells #[.slice (some ⟨gx,0,none⟩) np5 pc5] 30)
  have BX:=Blk.new w5 30 #[.slice (some ⟨gx,0,none⟩) np5 pc5]
  have o6:=o5.trans O6
  have B6:=B5.onw O6
  have A6:Hid _:=PartsAt.onw O6 A5.out
  have T6:Hid _:=T5'.out.onw O6
  have HU6:Hid (UsesAt _ va L.length (fU L)):=UsesAt.onw O6 HU5.out
  have Z56:Hid (w5.heap.size<=(w5.alloc (Obj.cells #[.slice (some ⟨gx,0,none⟩) np5 pc5] 30)).heap.size):=O6.size
  clear B5 o5 O6 A5 T5' HU5
  obtain ⟨X,hX⟩:∃X,w5.heap.size=X:=⟨_,rfl⟩
  rw[hX] at BX T6 Z35 Z56 ⊢
  clear hX
  generalize w5.alloc (Obj.cells #[.slice (some ⟨gx,0,none⟩) np5 pc5] 30)=w6 at*
  refine (implUses_any (np:=np5) (pm:=pm5) (pc:=pc5) (by have:=N5.out;omega) (slight_td E5.out S2.out) A6.out).mono ?_
  rintro e w7 ⟨va1,n1,vc1,rfl,O7,row7,l7⟩
  have PD5:pdOf pm5=pdOf t.pm:=td_pd E5.out
  rw[PD5,N5.out,HL.out] at row7
  obtain ⟨rfl,U7,v7⟩:=uses_at F4.out.1 row7
  have o7:=o6.trans O7
  have B7:=B6.onw O7
  have BX7:=BX.onw O7
  have HU7:Hid (UsesAt w7 va L.length (fU L)):=UsesAt.onw O7 HU6.out
  have HG7:Hid (UsesAt w7 va1 L.length (fU L)):=U7
  have HV7:Hid (∀x,va1=some x->X<=x.block):=fun x hx=>Nat.le_trans Z56.out (v7 x hx).1
  have A7:Hid _:=PartsAt.onw O7 A6.out
  have T7:Hid _:=T6.out.onw O7
  clear B6 o6 O7 A6 T6 HU6 BX row7 U7 v7 l7 PD5
  go_wp2_with fail
  refine (eqUseS_same va1 va L.length vc1 vc (fU L) _ (by have:=F4.out.2;omega) HG7.out HU7.out).mono ?_
  rintro e w9 ⟨rfl,O9⟩
  have o9:=o7.trans O9
  have B9:=B7.onw O9
  have BX9:=BX7.onw O9
  have HU9:Hid (UsesAt w9 va L.length (fU L)):=UsesAt.onw O9 HU7.out
  have HG9:Hid (UsesAt w9 va1 L.length (fU L)):=UsesAt.onw O9 HG7.out
  have A9:Hid (PartsAt w9 (some ⟨gx,0,none⟩) np5 pm5):=PartsAt.onw O9 A7.out
  have T9:Hid _:=T7.out.onw O9
  clear B7 o7 O9 A7 T7 HU7 HG7 BX7
  have x0:=Blk.at_ BX9 0 rfl
  have y0:=Blk.at_ B9 0 rfl
  go_wp2_with fail
  go_region_held3 (fun w'=>w'.cell? ⟨X,0,none⟩=some (.slice (some ⟨gx,0,none⟩) np5 pc5)/\w'.cell? ⟨w.heap.size,0,none⟩=some (.slice t.pa t.np t.pc)) (go_keep)
   (first
    |(go_at_call 6;refine (toTree_any t _ s1 (small_of_slight S2.out) (TM.At.onw (o9.trans (Below.drew (Onw.refl _))) HA.out)).mono ?_;rintro e w10 ⟨u10,rfl,O10,a10,e10,n10,g10,c10⟩;have E10:Hid _:=e10;clear e10 n10 g10 c10;have o10:=(show Onw w9 w10 from Onw.trans (Below.drew (Onw.refl _)) O10);have q1:=con o10 x0;have q2:=con o10 y0)
    |(go_at_call 9;refine (eqTree_same ⟨np5,pm5,some ⟨gx,0,none⟩,pc5⟩ u10 _ (by have:=N5.out;show np5<=1048576;omega) (small_of_slight (slight_td E5.out S2.out)) (E10.out.trans E5.out.symm) (TM.At.onw o10 A9.out) a10).mono ?_;rintro e w11 ⟨rfl,O11⟩;have r1:=con O11 q1;have r2:=con O11 q2))
  have o11':Onw w9 w11:=Onw.trans o10 O11
  have o11:Onw w w11:=Onw.trans o9 o11'
  have B11:=B9.onw o11'
  have BX11:=BX9.onw o11'
  have HU11:Hid (UsesAt w11 va L.length (fU L)):=UsesAt.onw o11' HU9.out
  have HG11:Hid (UsesAt w11 va1 L.length (fU L)):=UsesAt.onw o11' HG9.out
  have T11:Hid _:=T9.out.onw o11'
  clear x0 y0 q1 q2 r1 r2 o10 O10 O11 o11' B9 BX9 HU9 HG9 A9 T9 o9 a10 E10
  have x1:=Blk.at_ BX11 0 rfl
  have zx:=clt x1
  go_wp2_with fail
  refine (markTree_any gx np5 pc5 pm5 _ (by have:=N5.out;omega) (small_of_slight (slight_td E5.out S2.out)) T11.out).mono ?_
  rintro e w12 ⟨k,rfl,k0,M12⟩
  have o12:Onw w w12:=M12.chg.below o11 o11.size (fun j hj=>by have:=hj.1;have:=Z03.out;omega)
  have B12:=M12.chg.blk B11 (fun e=>by have:=e.1;have:=Z03.out;omega)
  have HU12:Hid (UsesAt w12 va L.length (fU L)):=UsesAt.chg M12.chg (fun x hx e=>by have:=HV3.out x hx;have:=e.1;omega) HU11.out
  have HG12:Hid (UsesAt w12 va1 L.length (fU L)):=UsesAt.chg M12.chg (fun x hx e=>by have:=HV7.out x hx;have:=e.2;omega) HG11.out
  have kd:decide (k < 0)=false:=decide_eq_false Zo
  clear x1 zx M12 T11 HU11 HG11 B11 BX11 o11
  go_wp2_with fail
  refine (eqUseS_same va1 va L.length vc1 vc (fU L) _ (by have:=F4.out.2;omega) HG12.out HU12.out).mono ?_
  rintro e w13 ⟨rfl,O13⟩
  have o13:=o12.trans O13
  have B13:=B12.onw O13
  have HU13:Hid (UsesAt w13 va L.length (fU L)):=UsesAt.onw O13 HU12.out
  have HG13:Hid (UsesAt w13 va1 L.length (fU L)):=UsesAt.onw O13 HG12.out
  clear HU12 HG12 O13 o12 B12
  go_wp2_with fail
  refine (markUseS_any va1 L.length vc1 (fU L) 1 _ (by have:=F4.out.2;omega) Zo Zo HG13.out).mono ?_
  rintro e w14 ⟨rfl,U14,C14⟩
  have lo:∀j,isBlk va1 j->X<=j:=fun j hj=>by
   obtain ⟨x,hx,rfl⟩:=hj
   exact HV7.out x hx
  have o14:Onw w w14:=C14.below o13 o13.size (fun j hj=>by have:=lo j hj;have:=Z03.out;have:=Z35.out;omega)
  have B14:=C14.blk B13 (fun e=>by have:=lo _ e;have:=Z03.out;have:=Z35.out;omega)
  have HU14:Hid (UsesAt w14 va L.length (fU L)):=UsesAt.chg C14 (fun x hx e=>by have:=HV3.out x hx;have:=lo _ e;have:=Z35.out;omega) HU13.out
  have HM14:Hid (UsesAt w14 va1 L.length (markF 1)):=U14
  have HN:Hid _:=F4.out.2
  clear U14 C14 HU13 HG13 B13 o13 lo
  go_wp2_with fail
  refine (heldUseS_any va1 L.length vc1 1 _ (by have:=HN.out;omega) Zo Zo HM14.out).mono ?_
  rintro e w15 ⟨rfl,O15⟩
  have o15:=o14.trans O15
  have B15:=B14.onw O15
  have HU15:Hid (UsesAt w15 va L.length (fU L)):=UsesAt.onw O15 HU14.out
  have HM15:Hid (UsesAt w15 va1 L.length (markF 1)):=UsesAt.onw O15 HM14.out
  have qd:decide (1+4*(L.length:Int) < 0)=false:=decide_eq_false Zo
  clear HU14 HM14 B14 o14 O15
  have b15:=Blk.at_ B15 0 rfl
  have zb15:=clt b15
  go_wp2_with fail
  refine (toTree_any t _ s1 (small_of_slight S2.out) (TM.At.onw o15 HA.out)).mono ?_
  rintro e w16 ⟨u16,rfl,O16,a16,e16,n16,g16,c16⟩
  have E16:Hid _:=e16
  have N16:Hid _:=n16
  have o16:=o15.trans O16
  have HU16:Hid (UsesAt w16 va L.length (fU L)):=UsesAt.onw O16 HU15.out
  have HM16:Hid (UsesAt w16 va1 L.length (markF 1)):=UsesAt.onw O16 HM15.out
  clear e16 n16 g16 c16 HU15 HM15 O16 o15 B15 b15 zb15
  go_wp2_with fail
  refine (implUses_any (pm:=u16.pm) (pc:=u16.pc) (by have:=N16.out;omega) (slight_td E16.out S2.out) a16).mono ?_
  rintro e w17 ⟨va2,n2,vc2,rfl,O17,row17,l17⟩
  rw[td_pd E16.out,N16.out,HL.out] at row17
  obtain ⟨rfl,U17,v17⟩:=uses_at F4.out.1 row17
  have HH17:Hid (UsesAt w17 va2 L.length (fU L)):=U17
  have o17:=o16.trans O17
  have HU17:Hid (UsesAt w17 va L.length (fU L)):=UsesAt.onw O17 HU16.out
  have HM17:Hid (UsesAt w17 va1 L.length (markF 1)):=UsesAt.onw O17 HM16.out
  clear U17 v17 l17 row17 a16 E16 N16 HU16 HM16 O17 o16
  go_wp2_with fail
  refine (eqUseS_same va2 va L.length vc2 vc (fU L) _ (by have:=HN.out;omega) HH17.out HU17.out).mono ?_
  rintro e w18 ⟨rfl,O18⟩
  have o18:=o17.trans O18
  have HM18:Hid (UsesAt w18 va1 L.length (markF 1)):=UsesAt.onw O18 HM17.out
  clear HU17 HM17 HH17 O18 o17
  go_wp2_with fail
  refine (heldUseS_any va1 L.length vc1 1 _ (by have:=HN.out;omega) Zo Zo HM18.out).mono ?_
  rintro e w19 ⟨rfl,O19⟩
  have o19:=o18.trans O19
  clear O19 o18 HM18
  go_wp2_with fail
  go_ret
  exact ⟨rfl,o19⟩
end Go.Proofs.YtlibofjbhhdjdaaGreat
