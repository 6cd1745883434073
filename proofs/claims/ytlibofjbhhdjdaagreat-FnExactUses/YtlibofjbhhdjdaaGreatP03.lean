import Derived.Test.YtlibofjbhhdjdaaGreatQ
import Derived.Test.YtlibofjbhhdjdaaGreatP01
import Derived.Test.YtlibofjbhhdjdaaGreatP02
set_option linter.unusedSimpArgs false
set_option maxRecDepth 100000
set_option maxHeartbeats 16000000
namespace Go.Proofs.YtlibofjbhhdjdaaGreat
open Go.RowKit
attribute [local go_sem] rsf
variable {wp z:Nat} {R:Nat->List (List Value)} {own:Nat->Nat} {V:Nat->Value} {tv:Value} {w:World}
theorem flatten_at :∀{els:List (List Value)},(∀x∈els,x.length=z)->∀{i:Nat} {x:List Value},els[i]?= some x->∀{c:Nat},c < z->els.flatten[i*z+c]?= x[c]?
 | [],_,i,x,h,_,_=>by simp at h
 |y::els,hl,0,x,h,c,hc=>by
  simp only[List.getElem?_cons_zero,Option.some.injEq] at h
  subst h
  have:=hl y J269
  simp only[List.flatten_cons,Nat.zero_mul,Nat.zero_add]
  rw[List.getElem?_append_left Zo]
 |y::els,hl,i+1,x,h,c,hc=>by
  simp only[List.getElem?_cons_succ] at h
  have hy:=hl y J269
  simp only[List.flatten_cons]
  rw[List.getElem?_append_right (by rw[hy];have:(i+1)*z=i*z+z:=Nat.succ_mul i z;omega)]
  rw[hy,show (i+1)*z+c-z=i*z+c by have:(i+1)*z=i*z+z:=Nat.succ_mul i z;omega]
  exact flatten_at (fun x hx=>hl x (by simp[hx])) h hc
theorem RowAt.form {base:Nat}{id:Nat}{e:TypeId}{v:Value}{els:List (List Value)}(h:RowAt w base own id e z v els)(h0:0 < els.length):
  ∃g cap,v= .slice (some ⟨g,0,none⟩) els.length cap/\base<=g/\els.length<=cap/\own g=id/\(∀i x c,els[i]?= some x->c < z->w.cell? ⟨g,i*z+c,none⟩=x[c]?)/\∀k,w.frozen? ⟨g,k,none⟩=false:=by
 rcases h.row.2 with ⟨_,h1⟩|⟨g,cap,cur,hv,hb,hg,hnc,hcm,hcs,htake⟩
 ·omega
 ·refine ⟨g,cap,hv,hb,hnc,h.mine g (by rw[hv];rfl),fun i x c hx hc=>?_,fun k=>frozen_of_row w g k cur e hg⟩
  have hi:i < els.length:=(List.getElem?_eq_some_iff.1 hx).1
  rw[cell_of_row w g _ cur e (0,0) hg,<-flatten_at h.len hx hc,<-htake,List.getElem?_take,if_pos ?_]
  ·simp
  ·have:(i+1)*z<=els.length*z:=Nat.mul_le_mul_right _ hi
   have:(i+1)*z=i*z+z:=Nat.succ_mul i z
   omega
theorem fn_wk {w0 w:World}(h:Wk w0 w wp tv own V R)(k:Nat)(hk:(R 2).length=k+1)(hb:k+1<=16777216):
  ∃g cap,V 2= .slice (some ⟨g,0,none⟩) (k+1:Nat) cap/\Calls Tryz.prog 26 #[.pointer (some ⟨wp,0,none⟩)] w fun e w'=>e= .returned (.pointer (some ⟨g,k*9,none⟩))/\Onw w w':=by
 obtain ⟨g,cap,hv,_,_,_,hc,_⟩:=(h.rows 2 Zo Zo).form Zo
 rw[hk] at hv
 refine ⟨g,cap,hv,?_⟩
 have b2:w.cell? ⟨wp,2,none⟩=some (.slice (some ⟨g,0,none⟩) (k+1:Nat) cap):=by rw[h.blk.cell,<-hv];rfl
 have zb:=h.blk.lt
 clear hc hv h hk
 go_enter Tryz.func26,Tryz.ntmps26
 go_wp2_with fail
 go_quiet (fail)
 go_wp2_with fail
 go_ret
 exact ⟨by simp,below_drewN (Onw.refl _) _⟩
structure SNm where
 name:ByteArray
 part:Int
 place:Int
 fn:Int
 fixed:Bool
 code:Int
 kind:Int
 num:Int
 flt:Nat
 str:ByteArray
 ref:Int
 v:Int
def SNm.cells (x:SNm):List Value:= [.string x.name,.int .i64 x.part,.int .i64 x.place,.int .i64 x.fn,.bool x.fixed,.int .i64 x.code,.int .i64 x.kind,.int .i64 x.num,.float .f64 x.flt,.string x.str,.int .i64 x.ref,.int .i64 x.v]
def Scope (els:List (List Value)) (n:Nat) (f:Nat->SNm):Prop:=els.length=n/\∀i,i < n->els[i]?= some (f i).cells
def findS (f:Nat->SNm) (name:ByteArray):Nat->Int
 |0=> -1
 |k+1=>bif (f k).name.toList==name.toList then (k:Int) else findS f name k
theorem find_wk {w0 w:World}(h:Wk w0 w wp tv own V R)(n:Nat)(f:Nat->SNm)(hs:Scope (R 1) n f)(name:ByteArray)(hb:n<=16777216):
  Calls Tryz.prog 101 #[.pointer (some ⟨wp,0,none⟩),.string name] w fun e w'=>e= .returned (.int .i64 (findS f name n))/\Onw w w':=by
 have b1:=Blk.at_ h.blk 1 rfl
 have HR:Hid _:=h.rows 1 Zo Zo
 have zb:=h.blk.lt
 obtain ⟨h1,h2⟩:=hs
 have H2:Hid _:=h2
 have H1:Hid _:=h1
 obtain ⟨va,vc,hv⟩:∃va vc,V 1= .slice va n vc:=by
  rcases HR.out.row.2 with ⟨e1,e2⟩|⟨g,cap,cur,e1,_⟩
  ·exact ⟨none,0,by rw[e1,<-h1,e2]⟩
  ·exact ⟨some ⟨g,0,none⟩,cap,by rw[e1,h1]⟩
 rw[hv] at b1
 have HV:Hid _:=hv
 clear hv h h1 h2
 go_enter Tryz.func101,Tryz.ntmps101
 go_wp2_with fail
 go_loopw [5] (fun x wr=>∃k:Nat,k<=n/\x= .int .i64 ((k:Int)-1)/\Onw w wr/\findS f name n=findS f name k) (fun x _=>(intOf x+1).toNat)
 case atStart=>exact ⟨n,Nat.le_refl _,rfl,by first|exact Onw.refl _|exact below_drewN (Onw.refl _) _,rfl⟩
 case round=>
  obtain ⟨k,hk,hx,ob,hf⟩:=hrel
  have HF:Hid _:=hf
  clear hf
  have c1:=con ob b1
  by_cases h0:0 < k
  ·obtain ⟨k',rfl⟩:∃k',k=k'+1:=⟨k-1,by omega⟩
   rw[show (((k'+1:Nat):Int)-1)=(k':Int) from by omega] at hx
   subst hx
   obtain ⟨g,cap,hv,_,_,_,hc,_⟩:=HR.out.form (by rw[H1.out];omega)
   rw[HV.out] at hv
   simp only[Value.slice.injEq] at hv
   obtain ⟨rfl,e2,rfl⟩:=hv
   clear e2
   have d0:w.cell? ⟨g,k'*12+0,none⟩=some (.string (f k').name):=by
    have:=hc k' _ 0 (H2.out k' Zo) (by show 0 < rowZ 1;decide)
    exact this
   have d1:=con ob d0
   simp only[Nat.add_zero] at d1
   clear hc d0
   have zg:=clt d1
   have k0:(0:Int)<=(k':Int):=Zo
   have k1:(k':Int) < (n:Int):=Zo
   cases he:((f k').name.toList==name.toList)
   ·have st:Hid (findS f name (k'+1)=findS f name k'):=by show _=_;rw[findS,he];rfl
    go_wp2_with fail
    go_roundw
    case rel=>exact ⟨k',by omega,by go_num,by first|exact ob|exact below_drewN ob _|exact Below.drew ob,by rw[HF.out,st.out]⟩
    case measure=>simp[intOf] <;> omega
   ·have st:Hid (findS f name (k'+1)=(k':Int)):=by show _=_;rw[findS,he];rfl
    go_wp2_with fail
    go_ret
    exact ⟨ret_int (by rw[HF.out,st.out]),by first|exact ob|exact below_drewN ob _|exact Below.drew ob⟩
  ·obtain rfl:k=0:=Zo
   subst hx
   go_wp2_with fail
   go_ret
   exact ⟨ret_int (by rw[HF.out];rfl),by first|exact ob|exact below_drewN ob _|exact Below.drew ob⟩
end Go.Proofs.YtlibofjbhhdjdaaGreat
namespace Go.Proofs.YtlibofjbhhdjdaaGreat
open Go.RowKit
variable {x:List Value} {B base wp z:Nat} {rs:Nat->Bool} {lp:Nat->Int} {R:Nat->List (List Value)} {own:Nat->Nat} {V:Nat->Value} {tv:Value} {w:World}
theorem flatten_set :∀{els:List (List Value)},(∀x∈els,x.length=z)->∀{i:Nat} {x:List Value},els[i]?= some x->∀{c:Nat},c < z->∀v,els.flatten.set (i*z+c) v=(els.set i (x.set c v)).flatten
 | [],_,i,x,h,_,_,_=>by simp at h
 |y::els,hl,0,x,h,c,hc,v=>by
  simp only[List.getElem?_cons_zero,Option.some.injEq] at h
  subst h
  have:=hl y J269
  simp only[List.flatten_cons,Nat.zero_mul,Nat.zero_add,List.set_cons_zero]
  rw[List.set_append_left _ _ Zo]
 |y::els,hl,i+1,x,h,c,hc,v=>by
  simp only[List.getElem?_cons_succ] at h
  have hy:=hl y J269
  have e:(i+1)*z=i*z+z:=Nat.succ_mul i z
  simp only[List.flatten_cons,List.set_cons_succ]
  rw[List.set_append_right _ _ (by rw[hy];omega)]
  rw[hy,show (i+1)*z+c-z=i*z+c by omega,flatten_set (fun x hx=>hl x (by simp[hx])) h hc v]
theorem RowAt.setc {id:Nat}{e:TypeId}{z g n cap:Nat}{els:List (List Value)}(h:RowAt w base own id e z (.slice (some ⟨g,0,none⟩) n cap) els){i:Nat}(hx:els[i]?= some x){c:Nat}(hc:c < z)(v:Value):
  RowAt (w.setCell ⟨g,i*z+c,none⟩ v) base own id e z (.slice (some ⟨g,0,none⟩) n cap) (els.set i (x.set c v)):=by
 have hi:i < els.length:=(List.getElem?_eq_some_iff.1 hx).1
 have hxm:x∈els:=List.mem_of_getElem? hx
 refine ⟨?_,fun y hy=>?_,h.mine⟩
 ·rw[List.length_set,<-flatten_set h.len hx hc v]
  refine ⟨by rw[List.length_set];exact h.row.1,?_⟩
  rcases h.row.2 with ⟨e1,_⟩|⟨g',cap',cur,hv,hb,hg,hnc,hcm,hcs,htake⟩
  ·cases e1
  ·cases hv
   refine .inr ⟨g,cap,cur.setIfInBounds (i*z+c) v,rfl,hb,heap_setCell_same w g (i*z+c) cur e v hg,hnc,hcm,by simpa using hcs,?_⟩
   rw[<-htake]
   simp[List.take_set]
 ·rcases List.mem_or_eq_of_mem_set hy with hy|rfl
  ·exact h.len y hy
  ·rw[List.length_set];exact h.len x hxm
def Lv (w:World) (base:Nat) (own:Nat->Nat) (B k:Nat) (cells:List Value) (loops:Int) (rest:Bool):Prop:=
 ∃(num:Int) (nm:ByteArray) (ln pr:Int) (vv uv nv:Value) (vs us ns:List (List Value)),
  cells= [.int .i64 num,.string nm,.int .i64 ln,.int .i64 pr,.bool rest,vv,uv,nv,.int .i64 loops]/\
  RowAt w base own (100+3*k) 9 1 vv vs/\RowAt w base own (101+3*k) 227 2 uv us/\RowAt w base own (102+3*k) 97 8 nv ns/\
  (∀x∈us,∃b i,x= [.bool b,.int .i64 i])/\vs.length<=B/\us.length<=B/\ns.length<=B
structure Ws (w0 w:World) (wp:Nat) (tv:Value) (own:Nat->Nat) (V:Nat->Value) (R:Nat->List (List Value)) (B:Nat) (lp:Nat->Int) (rs:Nat->Bool):Prop where
 wk:Wk w0 w wp tv own V R
 lens:∀j,1<=j->j<=11->(R j).length<=B
 lvs:∀k,k < (R 2).length->∃cells,(R 2)[k]?= some cells/\Lv w w0.heap.size own B k cells (lp k) (rs k)
theorem Lv.kept {w w':World}{own own':Nat->Nat}{B k:Nat}{cells:List Value}{loops:Int}{rest:Bool}(h:Lv w base own B k cells loops rest){p:Nat->Prop}(hk:Kept p w w')(hp:∀g,g < w.heap.size->(own g=100+3*k\/own g=101+3*k\/own g=102+3*k)->p g)(ho:∀k,k < w.heap.size->own' k=own k){B':Nat}(hB:B<=B'):Lv w' base own' B' k cells loops rest:=by
 obtain ⟨num,nm,ln,pr,vv,uv,nv,vs,us,ns,h1,h2,h3,h4,h5,h6,h7,h8⟩:=h
 exact ⟨num,nm,ln,pr,vv,uv,nv,vs,us,ns,h1,h2.kept hk (fun g hg=>hp g (h2.row.lt g hg).2 (Or.inl (h2.mine g hg))) ho,h3.kept hk (fun g hg=>hp g (h3.row.lt g hg).2 (Or.inr (Or.inl (h3.mine g hg)))) ho,h4.kept hk (fun g hg=>hp g (h4.row.lt g hg).2 (Or.inr (Or.inr (h4.mine g hg)))) ho,h5,by omega,by omega,by omega⟩
theorem Ws.onw {w0 w w':World}(h:Ws w0 w wp tv own V R B lp rs)(o:Onw w w'):Ws w0 w' wp tv own V R B lp rs:=
 ⟨h.wk.onw o,h.lens,fun k hk=>by
  obtain ⟨c,h1,h2⟩:=h.lvs k hk
  exact ⟨c,h1,h2.kept (p:=fun k=>k < w.heap.size) (fun k hk=>o.block k hk) (fun g hg _=>hg) (fun _ _=>rfl) (Nat.le_refl _)⟩⟩
theorem Ws.push {w0 w w1 w2:World}(h:Ws w0 w wp tv own V R B lp rs){j:Nat}(j1:1<=j)(j2:j<=11)(jn:j≠2){g cap:Nat}(hx:x.length=rowZ j)(hw1:Onw w w1)(hown:w2.ownsRow w0.heap.size (rowT j) (rowZ j) (.slice (some ⟨g,0,none⟩) ((R j).length+1:Nat) cap) ((R j).length+1) ((R j).flatten++x))(hgrow:w1.grownBy w2 (V j).ownBlock)(hwh:(V j).ownBlock=some g\/w1.heap.size<=g):
  Ws w0 (w2.setCell ⟨wp,j,none⟩ (.slice (some ⟨g,0,none⟩) ((R j).length+1:Nat) cap)) wp tv (bump own w.heap.size g (j+1)) (setV V j (.slice (some ⟨g,0,none⟩) ((R j).length+1:Nat) cap)) (pushR R j x) (B+1) lp rs
  /\Fr own (bump own w.heap.size g (j+1)) w (w2.setCell ⟨wp,j,none⟩ (.slice (some ⟨g,0,none⟩) ((R j).length+1:Nat) cap)):=by
 obtain ⟨a,b⟩:=h.wk.push j1 j2 hx hw1 hown hgrow hwh
 refine ⟨⟨a,fun i i1 i2=>?_,fun k hk=>?_⟩,b⟩
 ·have:=h.lens i i1 i2
  unfold pushR
  by_cases e:i=j
  ·rw[if_pos e,List.length_append];simp;omega
  ·rw[if_neg e];omega
 ·have e2:pushR R j x 2=R 2:=if_neg (fun e=>jn e.symm)
  rw[e2] at hk ⊢
  obtain ⟨c,h1,h2⟩:=h.lvs k hk
  have wlt:=h.wk.blk.lt
  refine ⟨c,h1,h2.kept (p:=fun k=>k < w.heap.size/\some k≠(V j).ownBlock/\k≠wp) ?_ ?_ b.tags (Nat.le_succ _)⟩
  ·exact fun k hk=>((ksc w2 wp j _) k hk.2.2).trans ((hgrow.block k (by have:=hw1.size;omega) hk.2.1).trans (hw1.block k hk.1))
  ·intro g' hg' ho
   have hr:=h.wk.rows j j1 j2
   exact J158
end Go.Proofs.YtlibofjbhhdjdaaGreat
namespace Go.Proofs.YtlibofjbhhdjdaaGreat
open Go.RowKit
attribute [local go_sem] rsf
variable {cells:List Value} {B cap k n wp:Nat} {rs:Nat->Bool} {lp:Nat->Int} {R:Nat->List (List Value)} {own own':Nat->Nat} {f:Nat->SNm} {V:Nat->Value} {tv v:Value} {w w0:World}
def slen:Option Value->Nat
 |some (.slice _ n _)=>n
 |_=>0
def nlen (R:Nat->List (List Value)) (k c:Nat):Nat:=slen (((R 2)[k]?).bind (·[c]?))
def Mono (R R':Nat->List (List Value)):Prop:=∀k,k < (R 2).length->nlen R k 6<=nlen R' k 6/\nlen R k 7<=nlen R' k 7/\(R 3).length<=(R' 3).length
structure SameR (R R':Nat->List (List Value)):Prop where
 rows:∀j,j≠2->j≠3->R' j=R j
 len:(R' 2).length=(R 2).length
 mono:Mono R R'
theorem SameR.refl (R:Nat->List (List Value)):SameR R R:=⟨fun _ _ _=>rfl,rfl,fun _ _=>⟨Nat.le_refl _,Nat.le_refl _,Nat.le_refl _⟩⟩
theorem SameR.trans {a b c:Nat->List (List Value)}(h:SameR a b)(k:SameR b c):SameR a c:=⟨fun j h2 h3=>(k.1 j h2 h3).trans (h.1 j h2 h3),k.2.trans h.2,fun i hi=>⟨Nat.le_trans (h.3 i hi).1 (k.3 i (by rw[h.2];exact hi)).1,Nat.le_trans (h.3 i hi).2.1 (k.3 i (by rw[h.2];exact hi)).2.1,Nat.le_trans (h.3 i hi).2.2 (k.3 i (by rw[h.2];exact hi)).2.2⟩⟩
theorem SameR.push {R R' : Nat -> List (List Value)}(h : SameR R R')(j : Nat)(x : List Value)(h0 : 0 < (R 2).length): SameR (pushR R j x) (pushR R' j x) := by
  have h33 : (pushR R j x 3).length <= (pushR R' j x 3).length := by
    have := (h.3 0 h0).2.2
    unfold pushR
    by_cases e : 3 = j
    · rw [if_pos e, if_pos e]; simp; exact this
    · rw [if_neg e, if_neg e]; exact this
  refine ⟨fun i h2 h3 => ?_, ?_, fun k hk => ?_⟩
  · unfold pushR; rw [h.1 i h2 h3]
  · unfold pushR
    by_cases e : 2 = j
    · rw [if_pos e, if_pos e]; simp [h.2]
    · rw [if_neg e, if_neg e]; exact h.2
  · refine ⟨?_, ?_, h33⟩
    all_goals
     unfold nlen pushR
     by_cases e : 2 = j
     · rw [if_pos e, if_pos e]
       by_cases hl : k < (R 2).length
       · rw [List.getElem?_append_left hl, List.getElem?_append_left (by rw [h.2]; exact hl)]
         first | exact (h.3 k hl).1 | exact (h.3 k hl).2.1
       · rw [List.getElem?_append_right Zo, List.getElem?_append_right (by rw [h.2]; omega), h.2]
         exact Nat.le_refl _
     · rw [if_neg e, if_neg e]
       have hk' : k < (R 2).length := by
         unfold pushR at hk
         rw [if_neg e] at hk
         exact hk
       first | exact (h.3 k hk').1 | exact (h.3 k hk').2.1
theorem RowAt.slen {base:Nat}{id:Nat}{e:TypeId}{z:Nat}{els:List (List Value)}(h:RowAt w base own id e z v els):slen (some v)=els.length:=by
 rcases h.row.2 with ⟨e1,e2⟩|⟨g,cap,cur,e1,_⟩
 ·rw[e1];simp only[Go.Proofs.YtlibofjbhhdjdaaGreat.slen];omega
 ·rw[e1];rfl
theorem mono_set {k c n:Nat}{a:Option Addr}(hk:(R 2)[k]?= some cells)(hc:cells[c]?= some v)(hv:slen (some v)<=n):
  Mono R (fun j=>if j=2 then (R 2).set k (cells.set c (.slice a n cap)) else R j):=by
 intro i hi
 unfold nlen
 simp only[if_true]
 by_cases e:k=i
 ·subst e
  rw[List.getElem?_set_self hi,hk]
  simp only[Option.bind_some]
  have hlt:c < cells.length:=(List.getElem?_eq_some_iff.1 hc).1
  have one:∀d,slen (cells[d]?)<=slen ((cells.set c (.slice a n cap))[d]?):=fun d=>by
   by_cases e2:c=d
   ·subst e2
    rw[List.getElem?_set_self hlt,hc];exact hv
   ·rw[List.getElem?_set_ne e2];exact Nat.le_refl _
  exact ⟨one 6,one 7,Nat.le_refl _⟩
 ·exact J200
def Post (w0:World) (wp:Nat) (tv:Value) (own:Nat->Nat) (w:World) (R:Nat->List (List Value)) (B:Nat) (lp:Nat->Int) (rs:Nat->Bool) (w':World):Prop:=
 ∃own' V' R',Ws w0 w' wp tv own' V' R' B lp rs/\Fr own own' w w'/\SameR R R'
theorem Post.of {w0 w w':World}{V':Nat->Value}(h:Ws w0 w' wp tv own' V' R B lp rs/\Fr own own' w w'):Post w0 wp tv own w R B lp rs w':=⟨own',V',R,h.1,h.2,SameR.refl R⟩
theorem Ws.blk (h:Ws w0 w wp tv own V R B lp rs):Blk w wp 51 #[tv,V 1,V 2,V 3,V 4,V 5,V 6,V 7,V 8,V 9,V 10,V 11]:=h.wk.blk
theorem Ws.ne (h:Ws w0 w wp tv own V R B lp rs){j:Nat}(j1:1<=j)(j2:j<=11):(V j).ownBlock≠some wp:=fun e=>by
 have:=(h.wk.rows j j1 j2).mine wp e
 have:=h.wk.wpo
 omega
theorem fault_ws (h:Ws w0 w wp tv own V R B lp rs)(hB:B<=16777216)(code part:Int):
  Calls Tryz.prog 67 #[.pointer (some ⟨wp,0,none⟩),.int .i64 code,.int .i64 part] w fun e w'=>e= .returned (.tuple #[])/\Post w0 wp tv own w (pushR R 7 [.int .i64 code,.int .i64 part]) (B+1) lp rs w':=by
 have HH:Hid _:=h
 have B0:=h.blk
 have hx:w.ownsRow w0.heap.size 39 2 (V 7) (R 7).length (R 7).flatten:=(h.wk.rows 7 Zo Zo).row
 have hl:=h.lens 7 Zo Zo
 have hne:=h.ne (j:=7) Zo Zo
 have hlo:=h.wk.ov.size
 clear h
 have b7:=Blk.at_ B0 7 rfl
 have bf:=B0.free
 have zb:=B0.lt
 obtain ⟨i0,hi,hz0,hz1,hz2⟩:=info_parts info_wrong
 have N:=Blk.new w 39 #[.int .i64 code,.int .i64 part]
 go_enter Tryz.func67,Tryz.ntmps67
 go_wp2_with (first|(at_builtin;refine wpList_app _ rfl (.tmp 10) (.tmp 14) 48 rfl w0.heap.size 39 i0 _ 2 16 Tryz.underlying48 hi hz0 hz1 hz2 rfl Zb (V 7) (R 7).length (R 7).flatten rfl (hx.alloc _) ⟨w.heap.size,0,none⟩ 1 1 [.int .i64 code,.int .i64 part] rfl rfl (fun j u hj=>by rw[Go.WideShapes.add_plain,N.cell,Nat.zero_add];simpa using hj) J262 Zb Zm Zo Zj ?_;intro g cap w' hown hgrow hwhere;have B2:=(hgrow.block wp Zj (fun e=>hne e.symm)).trans (B0.onw (Onw.alloc _ _));have bf2:=Blk.free B2;have b72:w'.cell? ⟨wp,7,none⟩=some (V 7):=by rw[Blk.cell B2];rfl))
 exact bodyPost_end (v:= .tuple #[]) (by simp[results,Tryz.results67,go_sem]) rfl ⟨rfl,Post.of (HH.out.push (j:=7) Zo Zo Zo rfl (Onw.alloc _ _) hown hgrow hwhere)⟩
theorem findS_cases (f:Nat->SNm)(name:ByteArray):∀n,findS f name n= -1\/∃k,k < n/\findS f name n=(k:Int)
 |0=>Or.inl rfl
 |n+1=>by
  rw[findS]
  cases (f n).name.toList==name.toList
  ·rcases findS_cases f name n with h|⟨k,hk,h⟩
   ·exact Or.inl h
   ·exact Or.inr ⟨k,by omega,h⟩
  ·exact Or.inr ⟨n,by omega,rfl⟩
def shadowB (f:Nat->SNm) (n nf:Nat) (part:Int) (name:ByteArray):Bool:=
 decide (0<=findS f name n)&&(((f (findS f name n).toNat).fn==(nf:Int)-1)&&((f (findS f name n).toNat).part !=part))
def noteR (R:Nat->List (List Value)) (b:Bool) (x:List Value):Nat->List (List Value):=bif b then pushR R 8 x else R
theorem info_note:(Tryz.prog.info? 93).map (fun i=>(i.zero,i.size,i.bytes))=some (some (.agg #[.int .i64 0,.int .i64 0,.int .i64 0]),3,24):=by kernel_rfl
theorem Ws.more {B B':Nat}(h:Ws w0 w wp tv own V R B lp rs)(hB:B<=B'):Ws w0 w wp tv own V R B' lp rs:=
 ⟨h.wk,fun j j1 j2=>Nat.le_trans (h.lens j j1 j2) hB,fun k hk=>by
  obtain ⟨c,h1,h2⟩:=h.lvs k hk
  exact ⟨c,h1,h2.kept (p:=fun _=>True) (Kept.refl _ _) (fun _ _ _=>trivial) (fun _ _=>rfl) hB⟩⟩
theorem Ws.scope (h:Ws w0 w wp tv own V R B lp rs)(hs:Scope (R 1) n f)(hk:k < n):
  ∃g cap,V 1= .slice (some ⟨g,0,none⟩) n cap/\n<=cap/\w0.heap.size<=g/\∀c,c < 12->w.cell? ⟨g,k*12+c,none⟩=(f k).cells[c]?:= by
 obtain ⟨g,cap,hv,hb,hnc,_,hc,_⟩:=(h.wk.rows 1 Zo Zo).form (by rw[hs.1];omega)
 rw[hs.1] at hv hnc
 exact ⟨g,cap,hv,hnc,hb,fun c hc'=>hc k _ c (hs.2 k hk) hc'⟩
theorem Ws.fns (h:Ws w0 w wp tv own V R B lp rs)(hk:(R 2).length=k+1):∃g cap,V 2= .slice (some ⟨g,0,none⟩) (k+1:Nat) cap:=by
 obtain ⟨g,cap,hv,_⟩:=(h.wk.rows 2 Zo Zo).form Zo
 rw[hk] at hv
 exact ⟨g,cap,hv⟩
theorem shadow_ws (h:Ws w0 w wp tv own V R B lp rs)(hB:B<=16777216)(hs:Scope (R 1) n f){l:Nat}(hl:(R 2).length=l+1)(part place:Int)(name:ByteArray):
  Calls Tryz.prog 82 #[.pointer (some ⟨wp,0,none⟩),.int .i64 part,.int .i64 place,.string name] w fun e w'=>e= .returned (.tuple #[])/\Post w0 wp tv own w (noteR R (shadowB f n (l+1) part name) [.int .i64 part,.int .i64 place,.int .i64 3]) (B+1) lp rs w':=by
 have hn:n<=16777216:=by have:=h.lens 1 Zo Zo;have:=hs.1;omega
 have hll:l+1<=16777216:=by have:=h.lens 2 Zo Zo;omega
 have HH:Hid _:=h
 have HS:Hid _:=hs
 have HL:Hid _:=hl
 clear h hs hl
 go_enter Tryz.func82,Tryz.ntmps82
 go_wp2_with fail
 refine (find_wk HH.out.wk n f HS.out name hn).mono ?_
 rintro e w1 ⟨rfl,o1⟩
 have h1:=HH.out.onw o1
 have HF:Hid _:=findS_cases f name n
 rcases HF.out with e1|⟨k,hk,e1⟩
 ·have sb:Hid (shadowB f n (l+1) part name=false):=by show _=_;unfold shadowB;rw[e1];rfl
  rw[e1]
  clear e1
  go_wp2_with fail
  go_quiet (fail)
  go_wp2_with fail
  exact bodyPost_end (v:= .tuple #[]) J298 rfl ⟨rfl,by
   rw[sb.out]
   exact Post.of ⟨(h1.onw (below_drewN (Onw.refl _) _)).more (Nat.le_succ _),Fr.onw (below_drewN o1 _)⟩⟩
 ·obtain ⟨g1,cap1,hv1,hnc,_,hc⟩:=h1.scope HS.out hk
  obtain ⟨g2,cap2,hv2⟩:=h1.fns HL.out
  have d1:w1.cell? ⟨g1,k*12+1,none⟩=some (.int .i64 (f k).part):=hc 1 Zo
  have d3:w1.cell? ⟨g1,k*12+3,none⟩=some (.int .i64 (f k).fn):=hc 3 Zo
  have b1:w1.cell? ⟨wp,1,none⟩=some (.slice (some ⟨g1,0,none⟩) n cap1):=by rw[h1.blk.cell,<-hv1];rfl
  have b2:w1.cell? ⟨wp,2,none⟩=some (.slice (some ⟨g2,0,none⟩) (l+1:Nat) cap2):=by rw[h1.blk.cell,<-hv2];rfl
  have zb:=h1.blk.lt
  have zg:=clt d1
  clear hc hv1 hv2
  have k0:decide ((0:Int)<=(k:Int))=true:=decide_eq_true Zo
  have k1:(k:Int) < (n:Int):=Zo
  have k2:(0:Int)<=(k:Int):=Zo
  have sb:Hid (shadowB f n (l+1) part name=(((f k).fn==(l:Int))&&((f k).part !=part))):=by
   show _=_
   unfold shadowB;rw[e1,k0]
   simp
  rw[e1]
  clear e1
  obtain ⟨x3,hx3⟩:∃x,(f k).fn=x:=⟨_,rfl⟩
  obtain ⟨x1,hx1⟩:∃x,(f k).part=x:=⟨_,rfl⟩
  rw[hx3] at d3 sb
  rw[hx1] at d1 sb
  clear hx3 hx1
  have H1:Hid _:=h1
  clear h1
  cases c3:(x3==(l:Int))
  ·go_wp2_with fail
   go_quiet (fail)
   go_wp2_with fail
   exact bodyPost_end (v:= .tuple #[]) J298 rfl ⟨rfl,by
    rw[sb.out,c3]
    exact Post.of ⟨(H1.out.onw (below_drewN (Onw.refl _) _)).more (Nat.le_succ _),Fr.onw (below_drewN o1 _)⟩⟩
  ·cases c1:(x1 !=part)
   ·go_wp2_with fail
    go_quiet (fail)
    go_wp2_with fail
    exact bodyPost_end (v:= .tuple #[]) J298 rfl ⟨rfl,by
     rw[sb.out,c3,c1]
     exact Post.of ⟨(H1.out.onw (below_drewN (Onw.refl _) _)).more (Nat.le_succ _),Fr.onw (below_drewN o1 _)⟩⟩
   ·go_wp2_with fail
    go_quiet (fail)
    have o2:Onw w1 (w1.drewN nq):=below_drewN (Onw.refl _) _
    have h2:=H1.out.onw o2
    have o3:=o1.trans o2
    generalize w1.drewN nq=w2 at*
    have HH2:Hid _:=h2
    have B0:=h2.blk
    have hx:w2.ownsRow w0.heap.size 93 3 (V 8) (R 8).length (R 8).flatten:=(h2.wk.rows 8 Zo Zo).row
    have hlen:=h2.lens 8 Zo Zo
    have hne:=h2.ne (j:=8) Zo Zo
    have hlo:=h2.wk.ov.size
    clear h2 b1 b2 d1 d3 zb zg
    have b8:=Blk.at_ B0 8 rfl
    have bf:=B0.free
    have zb:=B0.lt
    obtain ⟨i0,hi,hz0,hz1,hz2⟩:=info_parts info_note
    have N:=Blk.new w2 93 #[.int .i64 part,.int .i64 place,.int .i64 3]
    go_wp2_with (first|(at_builtin;refine wpList_app _ rfl (.tmp 47) (.tmp 51) 49 rfl w0.heap.size 93 i0 _ 3 24 Tryz.underlying49 hi hz0 hz1 hz2 rfl Zb (V 8) (R 8).length (R 8).flatten rfl (World.ownsRow.alloc hx _) ⟨w2.heap.size,0,none⟩ 1 1 [.int .i64 part,.int .i64 place,.int .i64 3] rfl rfl (fun j u hj=>by rw[Go.WideShapes.add_plain,N.cell,Nat.zero_add];simpa using hj) J262 Zb Zm Zo Zj ?_;intro g cap w' hown hgrow hwhere;have B2:=(hgrow.block wp Zj (fun e=>hne e.symm)).trans (B0.onw (Onw.alloc _ _));have bf2:=Blk.free B2;have b72:w'.cell? ⟨wp,8,none⟩=some (V 8):=by rw[Blk.cell B2];rfl))
    exact bodyPost_end (v:= .tuple #[]) J298 rfl ⟨rfl,by
     rw[sb.out,c3,c1]
     obtain ⟨a,b⟩:=HH2.out.push (j:=8) Zo Zo Zo rfl (Onw.alloc _ _) hown hgrow hwhere
     exact Post.of ⟨a,(Fr.onw o3).trans b⟩⟩
def lvT (c:Nat):TypeId:=if c=5 then 9 else if c=6 then 227 else 97
def lvZ (c:Nat):Nat:=if c=5 then 1 else if c=6 then 2 else 8
theorem Ws.level (h:Ws w0 w wp tv own V R B lp rs)(hk:k < (R 2).length):
  ∃g cap cells,V 2= .slice (some ⟨g,0,none⟩) (R 2).length cap/\(R 2).length<=cap/\own g=3/\(R 2)[k]?= some cells/\cells.length=9/\Lv w w0.heap.size own B k cells (lp k) (rs k)/\(∀c,c < 9->w.cell? ⟨g,k*9+c,none⟩=cells[c]?)/\∀i,w.frozen? ⟨g,i,none⟩=false:=by
 have r2:=h.wk.rows 2 Zo Zo
 obtain ⟨g,cap,hv,_,hnc,ho,hc,hf⟩:=r2.form Zo
 obtain ⟨cells,h1,h2⟩:=h.lvs k hk
 exact ⟨g,cap,cells,hv,hnc,ho,h1,r2.len _ (List.mem_of_getElem? h1),h2,fun c hc'=>hc k cells c h1 hc',hf⟩
theorem Ws.setL {w0 w w1 w2:World}{B B':Nat}{lp lp':Nat->Int}(h:Ws w0 w wp tv own V R B lp rs){k g cap c:Nat}(hk:(R 2)[k]?= some cells)(hv:V 2= .slice (some ⟨g,0,none⟩) (R 2).length cap)(hc:c < 9)(hB:B<=B')(hw1:Onw w w1)(row:Option Nat)(hgrow:w1.grownBy w2 row)(hrow:∀x,row=some x->w0.heap.size<=x/\(x < w.heap.size->own x=100+3*k\/own x=101+3*k\/own x=102+3*k))(htag:∀x,x < w.heap.size->own' x=own x)(hhigh:∀x,w2.heap.size<=x->own' x=0)(hlp:∀i,i≠k->lp' i=lp i)(hLv:Lv (w2.setCell ⟨g,k*9+c,none⟩ v) w0.heap.size own' B' k (cells.set c v) (lp' k) (rs k)):
  Ws w0 (w2.setCell ⟨g,k*9+c,none⟩ v) wp tv own' V (fun j=>if j=2 then (R 2).set k (cells.set c v) else R j) B' lp' rs/\Fr own own' w (w2.setCell ⟨g,k*9+c,none⟩ v):=by
 have wlt:=h.wk.blk.lt
 have hsz:w.heap.size<=w1.heap.size:=hw1.size
 have hgs:=hgrow.size
 have lt0:w0.heap.size<=w.heap.size:=h.wk.ov.size
 have r2:=h.wk.rows 2 Zo Zo
 have hg:own g=3/\w0.heap.size<=g/\g < w.heap.size:=by
  exact J118
 have KK:∀x,x < w.heap.size->x≠g->(own x≠100+3*k/\own x≠101+3*k/\own x≠102+3*k)->(w2.setCell ⟨g,k*9+c,none⟩ v).heap[x]?= w.heap[x]?:= fun x hx hxg ho=>
  ((ksc w2 g (k*9+c) v) x hxg).trans ((hgrow.block x Zo (fun e=>by have:=(hrow x e.symm).2 hx;omega)).trans (hw1.block x hx))
 have K2:w2.heap[g]?= w.heap[g]?:= (hgrow.block g Zo (fun e=>by have:=(hrow g e.symm).2 hg.2.2;omega)).trans (hw1.block g hg.2.2)
 have hi:k < (R 2).length:=(List.getElem?_eq_some_iff.1 hk).1
 refine ⟨⟨⟨?_,h.wk.wpb,?_,?_,?_,?_,?_⟩,?_,?_⟩,?_,htag,?_⟩
 ·exact bset (Below.grown (h.wk.ov.trans hw1) hgrow Zo (fun x hx=>(hrow x hx).1)) hg.2.1 _
 ·exact (KK wp wlt (fun e=>by have:=h.wk.wpo;rw[e,hg.1] at this;omega) (by have:=h.wk.wpo;omega)).trans h.wk.blk
 ·rw[htag wp wlt];exact h.wk.wpo
 ·exact fun x hx=>by rw[htag x Zo];exact h.wk.low x hx
 ·exact fun x hx=>hhigh x (by simpa only [World.size_setCell] using hx)
 ·intro i i1 i2
  by_cases e:i=2
  ·subst e
   simp only[if_true]
   have r2':RowAt w2 w0.heap.size own' 3 (rowT 2) (rowZ 2) (V 2) (R 2):=r2.kept (p:=fun x=>x=g) (fun x hx=>by rw[hx];exact K2) (fun x hx=>by have:(V 2).ownBlock=some g:=(by rw[hv];rfl);rw[this] at hx;exact (Option.some.inj hx).symm) htag
   rw[hv] at r2' ⊢
   exact r2'.setc hk hc v
  ·simp only[if_neg e]
   have ri:=h.wk.rows i i1 i2
   refine ri.kept (p:=fun x=>x < w.heap.size/\own x=i+1) (fun x hx=>KK x hx.1 (fun e2=>by rw[e2,hg.1] at hx;omega) Zo) (fun x hx=>⟨(ri.row.lt x hx).2,ri.mine x hx⟩) htag
 ·intro i i1 i2
  by_cases e:i=2
  ·subst e;simp only[if_true,List.length_set];exact Nat.le_trans (h.lens 2 i1 i2) hB
  ·simp only[if_neg e];exact Nat.le_trans (h.lens i i1 i2) hB
 ·intro i hii
  simp only[if_true,List.length_set] at hii ⊢
  by_cases e:i=k
  ·subst e
   exact ⟨_,by rw[List.getElem?_set];simp[hi],hLv⟩
  ·obtain ⟨cs,h1,h2⟩:=h.lvs i hii
   refine ⟨cs,by rw[List.getElem?_set,if_neg (fun h=>e h.symm)];exact h1,?_⟩
   rw[hlp i e]
   exact h2.kept (p:=fun x=>x < w.heap.size/\(own x=100+3*i\/own x=101+3*i\/own x=102+3*i)) (fun x hx=>KK x hx.1 (fun e2=>by rw[e2,hg.1] at hx;omega) Zo) (fun x hx ho=>⟨hx,ho⟩) htag hB
 ·simp only[World.size_setCell];omega
 ·exact fun x hx=>KK x hx.1 (fun e2=>by rw[e2,hg.1] at hx;omega) Zo
end Go.Proofs.YtlibofjbhhdjdaaGreat
