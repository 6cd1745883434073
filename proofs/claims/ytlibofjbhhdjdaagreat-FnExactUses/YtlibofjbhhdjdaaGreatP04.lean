import Derived.Test.YtlibofjbhhdjdaaGreatQ
import Derived.Test.YtlibofjbhhdjdaaGreatP03
set_option linter.unusedSimpArgs false
set_option maxRecDepth 100000
set_option maxHeartbeats 16000000
namespace Go.Proofs.YtlibofjbhhdjdaaGreat
open Go.RowKit
variable {nm:ByteArray} {ln num pr:Int} {ns us vs:List (List Value)} {x:List Value} {B cap cap2 g g2 k wp:Nat} {rs:Nat->Bool} {lp:Nat->Int} {R:Nat->List (List Value)} {own:Nat->Nat} {V:Nat->Value} {nv tv uv vv:Value} {w w0 w1 w2:World}
theorem Ws.pushN (h:Ws w0 w wp tv own V R B lp rs)(hk:(R 2)[k]?= some [.int .i64 num,.string nm,.int .i64 ln,.int .i64 pr,.bool (rs k),vv,uv,nv,.int .i64 (lp k)])(hv:V 2= .slice (some ⟨g,0,none⟩) (R 2).length cap)(rv:RowAt w w0.heap.size own (100+3*k) 9 1 vv vs)(ru:RowAt w w0.heap.size own (101+3*k) 227 2 uv us)(rn:RowAt w w0.heap.size own (102+3*k) 97 8 nv ns)(hus:∀x∈us,∃b i,x= [.bool b,.int .i64 i])(lv:vs.length<=B)(lu:us.length<=B)(lnn:ns.length<=B)(hx:x.length=8)(hw1:Onw w w1)(hown:w2.ownsRow w0.heap.size 97 8 (.slice (some ⟨g2,0,none⟩) (ns.length+1:Nat) cap2) (ns.length+1) (ns.flatten++x))(hgrow:w1.grownBy w2 nv.ownBlock)(hwh:nv.ownBlock=some g2\/w1.heap.size<=g2):
  ∃R',Ws w0 (w2.setCell ⟨g,k*9+7,none⟩ (.slice (some ⟨g2,0,none⟩) (ns.length+1:Nat) cap2)) wp tv (bump own w.heap.size g2 (102+3*k)) V R' (B+1) lp rs/\Fr own (bump own w.heap.size g2 (102+3*k)) w (w2.setCell ⟨g,k*9+7,none⟩ (.slice (some ⟨g2,0,none⟩) (ns.length+1:Nat) cap2))/\SameR R R':=by
 have hsz:w.heap.size<=w1.heap.size:=hw1.size
 have hgs:=hgrow.size
 have hi:k < (R 2).length:=(List.getElem?_eq_some_iff.1 hk).1
 have r2:=h.wk.rows 2 Zo Zo
 have hg:own g=3/\w0.heap.size<=g/\g < w.heap.size:=by
  exact J118
 have eqB:∀y,y < w.heap.size->bump own w.heap.size g2 (102+3*k) y=own y:=fun y hy=>by unfold bump;rw[if_pos hy]
 have hg2:=(hown.lt g2 rfl).2
 have hgne:g2≠g:=by
  rcases hwh with e|e
  ·intro e2;have:=rn.mine g2 e;rw[e2,hg.1] at this;omega
  ·omega
 have KK:∀y,y < w.heap.size->y≠g->own y≠102+3*k->(w2.setCell ⟨g,k*9+7,none⟩ (.slice (some ⟨g2,0,none⟩) (ns.length+1:Nat) cap2)).heap[y]?= w.heap[y]?:= fun y hy hyg ho=>
  ((ksc w2 g (k*9+7) _) y hyg).trans ((hgrow.block y Zo (fun e=>ho (rn.mine y e.symm))).trans (hw1.block y hy))
 have nr:RowAt (w2.setCell ⟨g,k*9+7,none⟩ (.slice (some ⟨g2,0,none⟩) (ns.length+1:Nat) cap2)) w0.heap.size (bump own w.heap.size g2 (102+3*k)) (102+3*k) 97 8 (.slice (some ⟨g2,0,none⟩) (ns.length+1:Nat) cap2) (ns++ [x]):=by
  refine ⟨?_,fun y hy=>?_,fun y hy=>?_⟩
  ·have:=ownsRow_kept (ksc w2 g (k*9+7) (.slice (some ⟨g2,0,none⟩) (ns.length+1:Nat) cap2)) (fun y hy=>by cases hy;exact hgne) hown
   exact J140
  ·rcases List.mem_append.1 hy with hy|hy
   ·exact rn.len y hy
   ·rw[List.mem_singleton.1 hy];exact hx
  ·obtain rfl:g2=y:=J312
   rcases hwh with e|e
   ·rw[eqB g2 (rn.row.lt g2 e).2];exact rn.mine g2 e
   ·exact J164
 obtain ⟨a,b⟩:=h.setL (c:=7) (B':=B+1) (lp':=lp) (own':=bump own w.heap.size g2 (102+3*k)) (v:= .slice (some ⟨g2,0,none⟩) (ns.length+1:Nat) cap2) hk hv Zo (Nat.le_succ _) hw1 nv.ownBlock hgrow (fun y hy=>⟨(rn.row.lt y hy).1,fun _=>by have:=rn.mine y hy;omega⟩) eqB (fun y hy=>by unfold bump;rw[if_neg Zo,if_neg Zo]) (fun _ _=>rfl)
  ⟨num,nm,ln,pr,vv,uv,_,vs,us,ns++ [x],rfl,rv.kept (p:=fun y=>y < w.heap.size/\own y=100+3*k) (fun y hy=>KK y hy.1 (fun e=>by rw[e,hg.1] at hy;omega) Zo) (fun y hy=>⟨(rv.row.lt y hy).2,rv.mine y hy⟩) eqB,ru.kept (p:=fun y=>y < w.heap.size/\own y=101+3*k) (fun y hy=>KK y hy.1 (fun e=>by rw[e,hg.1] at hy;omega) Zo) (fun y hy=>⟨(ru.row.lt y hy).2,ru.mine y hy⟩) eqB,nr,hus,by omega,by omega,by simp;omega⟩
 exact ⟨_,a,b,fun j h2 _=>if_neg h2,by simp,mono_set hk rfl (by rw[rn.slen];omega)⟩
theorem Ws.pushV (h:Ws w0 w wp tv own V R B lp rs)(hk:(R 2)[k]?= some [.int .i64 num,.string nm,.int .i64 ln,.int .i64 pr,.bool (rs k),vv,uv,nv,.int .i64 (lp k)])(hv:V 2= .slice (some ⟨g,0,none⟩) (R 2).length cap)(rv:RowAt w w0.heap.size own (100+3*k) 9 1 vv vs)(ru:RowAt w w0.heap.size own (101+3*k) 227 2 uv us)(rn:RowAt w w0.heap.size own (102+3*k) 97 8 nv ns)(hus:∀x∈us,∃b i,x= [.bool b,.int .i64 i])(lv:vs.length<=B)(lu:us.length<=B)(lnn:ns.length<=B)(hx:x.length=1)(hw1:Onw w w1)(hown:w2.ownsRow w0.heap.size 9 1 (.slice (some ⟨g2,0,none⟩) (vs.length+1:Nat) cap2) (vs.length+1) (vs.flatten++x))(hgrow:w1.grownBy w2 vv.ownBlock)(hwh:vv.ownBlock=some g2\/w1.heap.size<=g2):
  ∃R',Ws w0 (w2.setCell ⟨g,k*9+5,none⟩ (.slice (some ⟨g2,0,none⟩) (vs.length+1:Nat) cap2)) wp tv (bump own w.heap.size g2 (100+3*k)) V R' (B+1) lp rs/\Fr own (bump own w.heap.size g2 (100+3*k)) w (w2.setCell ⟨g,k*9+5,none⟩ (.slice (some ⟨g2,0,none⟩) (vs.length+1:Nat) cap2))/\SameR R R':=by
 have hsz:w.heap.size<=w1.heap.size:=hw1.size
 have hgs:=hgrow.size
 have hi:k < (R 2).length:=(List.getElem?_eq_some_iff.1 hk).1
 have r2:=h.wk.rows 2 Zo Zo
 have hg:own g=3/\w0.heap.size<=g/\g < w.heap.size:=by
  exact J118
 have eqB:∀y,y < w.heap.size->bump own w.heap.size g2 (100+3*k) y=own y:=fun y hy=>by unfold bump;rw[if_pos hy]
 have hg2:=(hown.lt g2 rfl).2
 have hgne:g2≠g:=by
  rcases hwh with e|e
  ·intro e2;have:=rv.mine g2 e;rw[e2,hg.1] at this;omega
  ·omega
 have KK:∀y,y < w.heap.size->y≠g->own y≠100+3*k->(w2.setCell ⟨g,k*9+5,none⟩ (.slice (some ⟨g2,0,none⟩) (vs.length+1:Nat) cap2)).heap[y]?= w.heap[y]?:= fun y hy hyg ho=>
  ((ksc w2 g (k*9+5) _) y hyg).trans ((hgrow.block y Zo (fun e=>ho (rv.mine y e.symm))).trans (hw1.block y hy))
 have nr:RowAt (w2.setCell ⟨g,k*9+5,none⟩ (.slice (some ⟨g2,0,none⟩) (vs.length+1:Nat) cap2)) w0.heap.size (bump own w.heap.size g2 (100+3*k)) (100+3*k) 9 1 (.slice (some ⟨g2,0,none⟩) (vs.length+1:Nat) cap2) (vs++ [x]):=by
  refine ⟨?_,fun y hy=>?_,fun y hy=>?_⟩
  ·have:=ownsRow_kept (ksc w2 g (k*9+5) (.slice (some ⟨g2,0,none⟩) (vs.length+1:Nat) cap2)) (fun y hy=>by cases hy;exact hgne) hown
   exact J140
  ·rcases List.mem_append.1 hy with hy|hy
   ·exact rv.len y hy
   ·rw[List.mem_singleton.1 hy];exact hx
  ·obtain rfl:g2=y:=J312
   rcases hwh with e|e
   ·rw[eqB g2 (rv.row.lt g2 e).2];exact rv.mine g2 e
   ·exact J164
 obtain ⟨a,b⟩:=h.setL (c:=5) (B':=B+1) (lp':=lp) (own':=bump own w.heap.size g2 (100+3*k)) (v:= .slice (some ⟨g2,0,none⟩) (vs.length+1:Nat) cap2) hk hv Zo (Nat.le_succ _) hw1 vv.ownBlock hgrow (fun y hy=>⟨(rv.row.lt y hy).1,fun _=>by have:=rv.mine y hy;omega⟩) eqB (fun y hy=>by unfold bump;rw[if_neg Zo,if_neg Zo]) (fun _ _=>rfl)
  ⟨num,nm,ln,pr,_,uv,nv,vs++ [x],us,ns,rfl,nr,ru.kept (p:=fun y=>y < w.heap.size/\own y=101+3*k) (fun y hy=>KK y hy.1 (fun e=>by rw[e,hg.1] at hy;omega) Zo) (fun y hy=>⟨(ru.row.lt y hy).2,ru.mine y hy⟩) eqB,rn.kept (p:=fun y=>y < w.heap.size/\own y=102+3*k) (fun y hy=>KK y hy.1 (fun e=>by rw[e,hg.1] at hy;omega) Zo) (fun y hy=>⟨(rn.row.lt y hy).2,rn.mine y hy⟩) eqB,hus,by simp;omega,by omega,by omega⟩
 exact ⟨_,a,b,fun j h2 _=>if_neg h2,by simp,mono_set hk rfl (by rw[rv.slen];omega)⟩
theorem Ws.pushU (h:Ws w0 w wp tv own V R B lp rs)(hk:(R 2)[k]?= some [.int .i64 num,.string nm,.int .i64 ln,.int .i64 pr,.bool (rs k),vv,uv,nv,.int .i64 (lp k)])(hv:V 2= .slice (some ⟨g,0,none⟩) (R 2).length cap)(rv:RowAt w w0.heap.size own (100+3*k) 9 1 vv vs)(ru:RowAt w w0.heap.size own (101+3*k) 227 2 uv us)(rn:RowAt w w0.heap.size own (102+3*k) 97 8 nv ns)(hus:∀x∈us,∃b i,x= [.bool b,.int .i64 i])(lv:vs.length<=B)(lu:us.length<=B)(lnn:ns.length<=B)(hx:x.length=2)(hxu:∃b i,x= [.bool b,.int .i64 i])(hw1:Onw w w1)(hown:w2.ownsRow w0.heap.size 227 2 (.slice (some ⟨g2,0,none⟩) (us.length+1:Nat) cap2) (us.length+1) (us.flatten++x))(hgrow:w1.grownBy w2 uv.ownBlock)(hwh:uv.ownBlock=some g2\/w1.heap.size<=g2):
  ∃R',Ws w0 (w2.setCell ⟨g,k*9+6,none⟩ (.slice (some ⟨g2,0,none⟩) (us.length+1:Nat) cap2)) wp tv (bump own w.heap.size g2 (101+3*k)) V R' (B+1) lp rs/\Fr own (bump own w.heap.size g2 (101+3*k)) w (w2.setCell ⟨g,k*9+6,none⟩ (.slice (some ⟨g2,0,none⟩) (us.length+1:Nat) cap2))/\SameR R R':=by
 have hsz:w.heap.size<=w1.heap.size:=hw1.size
 have hgs:=hgrow.size
 have hi:k < (R 2).length:=(List.getElem?_eq_some_iff.1 hk).1
 have r2:=h.wk.rows 2 Zo Zo
 have hg:own g=3/\w0.heap.size<=g/\g < w.heap.size:=by
  exact J118
 have eqB:∀y,y < w.heap.size->bump own w.heap.size g2 (101+3*k) y=own y:=fun y hy=>by unfold bump;rw[if_pos hy]
 have hg2:=(hown.lt g2 rfl).2
 have hgne:g2≠g:=by
  rcases hwh with e|e
  ·intro e2;have:=ru.mine g2 e;rw[e2,hg.1] at this;omega
  ·omega
 have KK:∀y,y < w.heap.size->y≠g->own y≠101+3*k->(w2.setCell ⟨g,k*9+6,none⟩ (.slice (some ⟨g2,0,none⟩) (us.length+1:Nat) cap2)).heap[y]?= w.heap[y]?:= fun y hy hyg ho=>
  ((ksc w2 g (k*9+6) _) y hyg).trans ((hgrow.block y Zo (fun e=>ho (ru.mine y e.symm))).trans (hw1.block y hy))
 have nr:RowAt (w2.setCell ⟨g,k*9+6,none⟩ (.slice (some ⟨g2,0,none⟩) (us.length+1:Nat) cap2)) w0.heap.size (bump own w.heap.size g2 (101+3*k)) (101+3*k) 227 2 (.slice (some ⟨g2,0,none⟩) (us.length+1:Nat) cap2) (us++ [x]):=by
  refine ⟨?_,fun y hy=>?_,fun y hy=>?_⟩
  ·have:=ownsRow_kept (ksc w2 g (k*9+6) (.slice (some ⟨g2,0,none⟩) (us.length+1:Nat) cap2)) (fun y hy=>by cases hy;exact hgne) hown
   exact J140
  ·rcases List.mem_append.1 hy with hy|hy
   ·exact ru.len y hy
   ·rw[List.mem_singleton.1 hy];exact hx
  ·obtain rfl:g2=y:=J312
   rcases hwh with e|e
   ·rw[eqB g2 (ru.row.lt g2 e).2];exact ru.mine g2 e
   ·exact J164
 have hus2:∀y∈us++ [x],∃b i,y= [.bool b,.int .i64 i]:=fun y hy=>by
  rcases List.mem_append.1 hy with hy|hy
  ·exact hus y hy
  ·rw[List.mem_singleton.1 hy];exact hxu
 obtain ⟨a,b⟩:=h.setL (c:=6) (B':=B+1) (lp':=lp) (own':=bump own w.heap.size g2 (101+3*k)) (v:= .slice (some ⟨g2,0,none⟩) (us.length+1:Nat) cap2) hk hv Zo (Nat.le_succ _) hw1 uv.ownBlock hgrow (fun y hy=>⟨(ru.row.lt y hy).1,fun _=>by have:=ru.mine y hy;omega⟩) eqB (fun y hy=>by unfold bump;rw[if_neg Zo,if_neg Zo]) (fun _ _=>rfl)
  ⟨num,nm,ln,pr,vv,_,nv,vs,us++ [x],ns,rfl,rv.kept (p:=fun y=>y < w.heap.size/\own y=100+3*k) (fun y hy=>KK y hy.1 (fun e=>by rw[e,hg.1] at hy;omega) Zo) (fun y hy=>⟨(rv.row.lt y hy).2,rv.mine y hy⟩) eqB,nr,rn.kept (p:=fun y=>y < w.heap.size/\own y=102+3*k) (fun y hy=>KK y hy.1 (fun e=>by rw[e,hg.1] at hy;omega) Zo) (fun y hy=>⟨(rn.row.lt y hy).2,rn.mine y hy⟩) eqB,hus2,by omega,by simp;omega,by omega⟩
 exact ⟨_,a,b,fun j h2 _=>if_neg h2,by simp,mono_set hk rfl (by rw[ru.slen];omega)⟩
end Go.Proofs.YtlibofjbhhdjdaaGreat
namespace Go.Proofs.YtlibofjbhhdjdaaGreat
open Go.RowKit
attribute [local go_sem] rsf
variable {els:List (List Value)} {B base n wp z:Nat} {rs:Nat->Bool} {lp:Nat->Int} {R:Nat->List (List Value)} {own own':Nat->Nat} {f:Nat->SNm} {V:Nat->Value} {oa:Option Addr} {e:TypeId} {tv v:Value} {w w0:World}
theorem info_node:(Tryz.prog.info? 97).map (fun i=>(i.zero,i.size,i.bytes))=some (some (.agg #[.int .i64 0,.int .i64 0,.int .i64 0,.int .i64 0,.float .f64 0,.string ByteArray.empty,.slice none 0 0,.slice none 0 0]),8,104):=by kernel_rfl
theorem add_ws (h:Ws w0 w wp tv own V R B lp rs)(hB:B<=16777216){l:Nat}(hl:(R 2).length=l+1)(m:NM):
  Calls Tryz.prog 41 #[.pointer (some ⟨wp,0,none⟩),.agg #[.int .i64 m.kind,.int .i64 m.line,.int .i64 m.op,.int .i64 m.num,.float .f64 m.flt,.string m.str,.slice m.ra m.nr m.rc,.slice m.ka m.nk m.kc]] w fun e w'=>∃r:Nat,r<=B/\e= .returned (.int .i64 r)/\Post w0 wp tv own w R (B+1) lp rs w':=by
 have hll:l+1<=16777216:=by have:=h.lens 2 Zo Zo;omega
 have N0:=Blk.new w 97 #[.int .i64 m.kind,.int .i64 m.line,.int .i64 m.op,.int .i64 m.num,.float .f64 m.flt,.string m.str,.slice m.ra m.nr m.rc,.slice m.ka m.nk m.kc]
 have O0:=Onw.alloc w (Obj.cells #[.int .i64 m.kind,.int .i64 m.line,.int .i64 m.op,.int .i64 m.num,.float .f64 m.flt,.string m.str,.slice m.ra m.nr m.rc,.slice m.ka m.nk m.kc] 97)
 have h0:=h.onw O0
 go_enter Tryz.func41,Tryz.ntmps41
 go_wp2_with fail
 obtain ⟨g,cap,hv2,hcall⟩:=fn_wk h0.wk l hl hll
 refine hcall.mono ?_
 rintro e w1 ⟨rfl,o1⟩
 have h1:=h0.onw o1
 have B1:=N0.onw o1
 have O1:=O0.trans o1
 have hown0:=h.wk.high w.heap.size (Nat.le_refl _)
 clear hcall N0 O0 o1 h h0
 obtain ⟨g',cap',cells,hv,hnc,ho,hk,hcl,hL,hcc,hfz⟩:=h1.level (k:=l) Zo
 have hg':g'=g:=Ze
 subst hg'
 obtain ⟨num,nm,ln,pr,vv,uv,nv,vs,us,ns,hcells,rv,ru,rn,hus,lv,lu,lnn⟩:=hL
 have c7:w1.cell? ⟨g',l*9+1+6,none⟩=some nv:=by rw[show l*9+1+6=l*9+7 by omega,hcc 7 Zo,hcells];rfl
 have f7:=hfz (l*9+1+6)
 have hne:nv.ownBlock≠some g':=fun e=>by have:=rn.mine g' e;omega
 have hne2:nv.ownBlock≠some w.heap.size:=fun e=>by have:=rn.mine _ e;omega
 have zg:=clt c7
 have hx:=rn.row
 have hlo:=h1.wk.ov.size
 have H1:Hid _:=h1
 have HK:Hid _:=hk
 have HV:Hid _:=hv
 have HC:Hid _:=hcells
 have HRV:Hid _:=rv
 have HRU:Hid _:=ru
 have HRN:Hid _:=rn
 have HUS:Hid _:=hus
 have HL:Hid _:=hl
 clear h1 hk hv hv2 hcells hcc hfz rv ru rn hus hnc hcl ho hl
 have p0:=Blk.at_ B1 0 rfl
 have p1:=Blk.at_ B1 1 rfl
 have p2:=Blk.at_ B1 2 rfl
 have p3:=Blk.at_ B1 3 rfl
 have p4:=Blk.at_ B1 4 rfl
 have p5:=Blk.at_ B1 5 rfl
 have p6:=Blk.at_ B1 6 rfl
 have p7:=Blk.at_ B1 7 rfl
 have zw:=B1.lt
 obtain ⟨i0,hi,hz0,hz1,hz2⟩:=info_parts info_node
 have N:=Blk.new w1.drew 97 #[.int .i64 m.kind,.int .i64 m.line,.int .i64 m.op,.int .i64 m.num,.float .f64 m.flt,.string m.str,.slice m.ra m.nr m.rc,.slice m.ka m.nk m.kc]
 go_wp2_with fail
 go_region_law (first|(refine step_app rfl (.tmp 13) (.tmp 15) 71 rfl w0.heap.size 97 i0 _ 8 104 Tryz.underlying71 hi hz0 hz1 hz2 rfl Zb nv ns.length ns.flatten rfl ((World.ownsRow.drew hx).alloc _) ⟨w1.heap.size,0,none⟩ 1 1 [.int .i64 m.kind,.int .i64 m.line,.int .i64 m.op,.int .i64 m.num,.float .f64 m.flt,.string m.str,.slice m.ra m.nr m.rc,.slice m.ka m.nk m.kc] rfl rfl (fun j u hj=>by rw[Go.WideShapes.add_plain];exact (Blk.cell N (0+j)).trans J288) J262 Zb Zm Zo (by show w0.heap.size<=(w1.drew.alloc _).heap.size;simp;omega) ?_;intro g2 cap2 w2 hown hgrow hwhere;have q7:=hgrow.cell (con ((Below.drew (Onw.refl w1)).trans (Onw.alloc w1.drew _)) c7) (fun e=>hne e.symm);have q10:=hgrow.cell (con ((Below.drew (Onw.refl w1)).trans (Onw.alloc w1.drew _)) p0) (fun e=>hne2 e.symm);have q11:=hgrow.cell (con ((Below.drew (Onw.refl w1)).trans (Onw.alloc w1.drew _)) p1) (fun e=>hne2 e.symm);have q12:=hgrow.cell (con ((Below.drew (Onw.refl w1)).trans (Onw.alloc w1.drew _)) p2) (fun e=>hne2 e.symm);have q13:=hgrow.cell (con ((Below.drew (Onw.refl w1)).trans (Onw.alloc w1.drew _)) p3) (fun e=>hne2 e.symm);have q14:=hgrow.cell (con ((Below.drew (Onw.refl w1)).trans (Onw.alloc w1.drew _)) p4) (fun e=>hne2 e.symm);have q15:=hgrow.cell (con ((Below.drew (Onw.refl w1)).trans (Onw.alloc w1.drew _)) p5) (fun e=>hne2 e.symm);have q16:=hgrow.cell (con ((Below.drew (Onw.refl w1)).trans (Onw.alloc w1.drew _)) p6) (fun e=>hne2 e.symm);have q17:=hgrow.cell (con ((Below.drew (Onw.refl w1)).trans (Onw.alloc w1.drew _)) p7) (fun e=>hne2 e.symm);have f72:w2.frozen? ⟨g',l*9+1+6,none⟩=false:=(World.frozen?_of_block (a:=⟨g',l*9+1+6,none⟩) ((hgrow.block g' Zj (fun e=>hne e.symm)).trans (heap_alloc_old w1.drew _ (show g' < w1.drew.heap.size from zg)))).trans f7))
 all_goals
  have PN:=HRN.out
  have hk2:=HK.out
  rw[HC.out] at hk2
  obtain ⟨R',a,b,s⟩:=H1.out.pushN (k:=l) (x:= [.int .i64 m.kind,.int .i64 m.line,.int .i64 m.op,.int .i64 m.num,.float .f64 m.flt,.string m.str,.slice m.ra m.nr m.rc,.slice m.ka m.nk m.kc]) hk2 HV.out HRV.out HRU.out HRN.out HUS.out lv lu lnn rfl ((Below.drew (Onw.refl w1)).trans (Onw.alloc w1.drew _)) hown hgrow hwhere
  have zl:g' < w2.heap.size:=by have:=hgrow.size;simp at this;have:g' < w1.heap.size:=zg;omega
  have HA:Hid _:=a
  have HBB:Hid _:=b
  have HSR:Hid _:=s
  clear a b s PN hk2
  have v7:(w2.setCell ⟨g',l*9+1+6,none⟩ (.slice (some ⟨g2,0,none⟩) (ns.length+1:Nat) cap2)).cell? ⟨g',l*9+1+6,none⟩=some (.slice (some ⟨g2,0,none⟩) (ns.length+1:Nat) cap2):=by
   simp[World.cell?_setCell_same,q7]
  generalize w2.setCell ⟨g',l*9+1+6,none⟩ (.slice (some ⟨g2,0,none⟩) (ns.length+1:Nat) cap2)=w3 at*
  go_wp2_with fail
  go_ret
  exact ⟨ns.length,lnn,rfl,_,_,R',HA.out,(Fr.onw O1).trans HBB.out,HSR.out⟩
def Pairs (els:List (List Value)) (n:Nat) (f:Nat->Int×Int):Prop:=els.length=n/\∀i,i < n->els[i]?= some [.int .i64 (f i).1,.int .i64 (f i).2]
def closedB (f:Nat->Int×Int) (a b:Int) (i:Nat):Nat->Bool
 |0=>false
 |m+1=>((f i).1==a&&(f i).2==b)||closedB f a b (i+1) m
def closeR (R:Nat->List (List Value)) (c:Bool) (x:List Value):Nat->List (List Value):=bif c then R else pushR R 6 x
theorem info_decl:(Tryz.prog.info? 151).map (fun i=>(i.zero,i.size,i.bytes))=some (some (.agg #[.int .i64 0,.int .i64 0]),2,16):=by kernel_rfl
theorem close_ws (h:Ws w0 w wp tv own V R B lp rs)(hB:B<=16777216){f:Nat->Int×Int}(hp:Pairs (R 6) n f)(a b:Int):
  Calls Tryz.prog 111 #[.pointer (some ⟨wp,0,none⟩),.agg #[.int .i64 a,.int .i64 b]] w fun e w'=>e= .returned (.tuple #[])/\Post w0 wp tv own w (closeR R (closedB f a b 0 n) [.int .i64 a,.int .i64 b]) (B+1) lp rs w':=by
 have hn:n<=16777216:=by have:=h.lens 6 Zo Zo;have:=hp.1;omega
 have D0:=Blk.new w 151 #[.int .i64 a,.int .i64 b]
 have O0:=Onw.alloc w (Obj.cells #[.int .i64 a,.int .i64 b] 151)
 have h0:=h.onw O0
 obtain ⟨va,vc,hv⟩:∃va vc,V 6= .slice va n vc:=by
  rcases (h.wk.rows 6 Zo Zo).row.2 with ⟨e1,e2⟩|⟨g,cap,cur,e1,_⟩
  ·exact ⟨none,0,by rw[e1,<-hp.1,e2]⟩
  ·exact ⟨some ⟨g,0,none⟩,cap,by rw[e1,hp.1]⟩
 have b6:(w.alloc (Obj.cells #[.int .i64 a,.int .i64 b] 151)).cell? ⟨wp,6,none⟩=some (.slice va n vc):=by rw[h0.blk.cell,<-hv];rfl
 have HR:Hid _:=h0.wk.rows 6 Zo Zo
 have HH:Hid _:=h0
 have HP:Hid _:=hp
 have HV:Hid _:=hv
 have zb:=h0.blk.lt
 clear h h0 hp hv
 go_enter Tryz.func111,Tryz.ntmps111
 go_wp2_with fail
 generalize w.alloc (Obj.cells #[.int .i64 a,.int .i64 b] 151)=w1 at*
 go_loopw [11] (fun x wr=>∃i:Nat,i<=n/\x= .int .i64 i/\Onw w1 wr/\closedB f a b 0 n=closedB f a b i (n-i)) (fun x _=>n-(intOf x).toNat)
 case atStart=>exact ⟨0,Nat.zero_le _,rfl,Onw.refl _,rfl⟩
 case round=>
  obtain ⟨i,hi,rfl,ob,hf⟩:=hrel
  have HF:Hid _:=hf
  clear hf
  have D1:=D0.onw ob
  have zd:=D1.lt
  by_cases hlt:i < n
  ·obtain ⟨g,cap,hv,_,_,_,hc,_⟩:=HR.out.form (by rw[HP.out.1];omega)
   rw[HV.out] at hv
   simp only[Value.slice.injEq] at hv
   obtain ⟨rfl,e2,rfl⟩:=hv
   clear e2
   have x0:=con ob ((hc i _ 0 (HP.out.2 i hlt) (by show 0 < rowZ 6;decide)).trans rfl)
   have x1:=con ob ((hc i _ 1 (HP.out.2 i hlt) (by show 1 < rowZ 6;decide)).trans rfl)
   have r6:rowZ 6=2:=rfl
   rw[r6] at x0 x1
   clear hc r6
   simp only[Nat.add_zero] at x0
   have zx:=clt x0
   have st:Hid (closedB f a b i (n-i)=(((f i).1==a&&(f i).2==b)||closedB f a b (i+1) (n-(i+1)))):=by
    show _=_
    rw[show n-i=(n-(i+1))+1 from by omega];rfl
   have d0:=Blk.at_ D1 0 rfl
   have d1:=Blk.at_ D1 1 rfl
   have ii:(i:Int) < (n:Int):=Zo
   cases c0:((f i).1==a)
   ·go_wp2_with fail
    go_roundw
    case rel=>exact ⟨i+1,by omega,by go_num,ob.trans (Onw.alloc _ _),by rw[HF.out,st.out,c0];rfl⟩
    case measure=>simp[intOf] <;> omega
   ·cases c1:((f i).2==b)
    ·go_wp2_with fail
     go_roundw
     case rel=>exact ⟨i+1,by omega,by go_num,ob.trans (Onw.alloc _ _),by rw[HF.out,st.out,c0,c1];rfl⟩
     case measure=>simp[intOf] <;> omega
    ·go_wp2_with fail
     exact bodyPost_ret (v:= .tuple #[]) (by simp[results,Tryz.results111,go_sem]) rfl ⟨rfl,by
      rw[HF.out,st.out,c0,c1]
      have o2:=ob.trans (Onw.alloc wr (Obj.cells #[.int .i64 (f i).1,.int .i64 (f i).2] 151))
      exact Post.of ⟨(HH.out.onw o2).more (Nat.le_succ _),Fr.onw (O0.trans o2)⟩⟩
  ·have st:Hid (closedB f a b 0 n=false):=by
    show _=_
    rw[HF.out,show n-i=0 from by omega];rfl
   have d0:=Blk.at_ D1 0 rfl
   have d1:=Blk.at_ D1 1 rfl
   have h2:=HH.out.onw ob
   have HH2:Hid _:=h2
   have B0:=h2.blk
   have hx:wr.ownsRow w0.heap.size 151 2 (V 6) (R 6).length (R 6).flatten:=(h2.wk.rows 6 Zo Zo).row
   have hlen:=h2.lens 6 Zo Zo
   have hne:=h2.ne (j:=6) Zo Zo
   have hlo:=h2.wk.ov.size
   clear h2 b6 zb
   have b6:=Blk.at_ B0 6 rfl
   have bf:=B0.free
   have zb:=B0.lt
   obtain ⟨i0,hi,hz0,hz1,hz2⟩:=info_parts info_decl
   have N:=Blk.new wr.drew 151 #[.int .i64 a,.int .i64 b]
   go_wp2_with fail
   go_region_law (first|(refine step_app rfl (.tmp 23) (.tmp 25) 47 rfl w0.heap.size 151 i0 _ 2 16 Tryz.underlying47 hi hz0 hz1 hz2 rfl Zb (V 6) (R 6).length (R 6).flatten rfl ((World.ownsRow.drew hx).alloc _) ⟨wr.heap.size,0,none⟩ 1 1 [.int .i64 a,.int .i64 b] rfl rfl (fun j u hj=>by rw[Go.WideShapes.add_plain];exact (Blk.cell N (0+j)).trans J288) J262 Zb Zm Zo (by show w0.heap.size<=(wr.drew.alloc _).heap.size;simp;omega) ?_;intro g cap w2 hown hgrow hwhere;have B2:=(hgrow.block wp Zj (fun e=>hne e.symm)).trans (B0.onw ((Below.drew (Onw.refl wr)).trans (Onw.alloc wr.drew _)));have bf2:=Blk.free B2;have b62:w2.cell? ⟨wp,6,none⟩=some (V 6):=by rw[Blk.cell B2];rfl))
   all_goals
    go_wp2_with fail
    exact bodyPost_end (v:= .tuple #[]) (by simp[results,Tryz.results111,go_sem]) rfl ⟨rfl,by
     rw[st.out]
     obtain ⟨p1,p2⟩:=HH2.out.push (j:=6) Zo Zo Zo rfl ((Below.drew (Onw.refl wr)).trans (Onw.alloc wr.drew _)) hown hgrow hwhere
     exact Post.of ⟨p1,(Fr.onw (O0.trans ob)).trans p2⟩⟩
def varN (name:ByteArray) (part:Int) (place:Nat) (fn:Nat) (v:Int):SNm:=⟨name,part,place,fn,false,0,0,0,0,ByteArray.empty,0,v⟩
def setF (f:Nat->SNm) (n:Nat) (x:SNm):Nat->SNm:=fun k=>if k=n then x else f k
theorem Scope.push (h:Scope els n f)(x:SNm):Scope (els++ [x.cells]) (n+1) (setF f n x):=by
 refine ⟨by rw[List.length_append,h.1];rfl,fun i hi=>?_⟩
 unfold setF
 by_cases e:i=n
 ·rw[if_pos e,e,List.getElem?_append_right (by rw[h.1];exact Nat.le_refl _),h.1];simp
 ·rw[if_neg e,List.getElem?_append_left (by rw[h.1];omega)];exact h.2 i Zo
def declF (f:Nat->SNm) (n:Nat) (part:Int) (nm:Nat->ByteArray) (l:Nat) (vs:Nat->Int):Nat->Nat->SNm
 |0=>f
 |c+1=>setF (declF f n part nm l vs c) (n+c) (varN (nm c) part c l (vs c))
def declR (R:Nat->List (List Value)) (f:Nat->SNm) (n:Nat) (part:Int) (nm:Nat->ByteArray) (l:Nat) (vs:Nat->Int):Nat->Nat->List (List Value)
 |0=>R
 |c+1=>pushR (pushR (noteR (declR R f n part nm l vs c) (shadowB (declF f n part nm l vs c) (n+c) (l+1) part (nm c)) [.int .i64 part,.int .i64 c,.int .i64 3]) 11 [.int .i64 part,.int .i64 c]) 1 (varN (nm c) part c l (vs c)).cells
theorem declR_2 (R:Nat->List (List Value))(f:Nat->SNm)(n:Nat)(part:Int)(nm:Nat->ByteArray)(l:Nat)(vs:Nat->Int):∀c,declR R f n part nm l vs c 2=R 2
 |0=>rfl
 |c+1=>by
  rw[declR]
  show noteR _ _ _ 2=_
  unfold noteR
  cases shadowB (declF f n part nm l vs c) (n+c) (l+1) part (nm c)
  ·exact declR_2 R f n part nm l vs c
  ·exact declR_2 R f n part nm l vs c
theorem declR_1 (h:Scope (R 1) n f)(part:Int)(nm:Nat->ByteArray)(l:Nat)(vs:Nat->Int):∀c,Scope (declR R f n part nm l vs c 1) (n+c) (declF f n part nm l vs c)
 |0=>h
 |c+1=>by
  have ih:=declR_1 h part nm l vs c
  have e:declR R f n part nm l vs (c+1) 1=declR R f n part nm l vs c 1++ [(varN (nm c) part c l (vs c)).cells]:=by
   rw[declR]
   show (noteR _ _ _ 1)++_=_
   unfold noteR
   cases shadowB (declF f n part nm l vs c) (n+c) (l+1) part (nm c) <;> rfl
  rw[e]
  exact ih.push _
theorem decl_congr (R:Nat->List (List Value))(f:Nat->SNm)(n:Nat)(part:Int)(nm:Nat->ByteArray)(l:Nat){vs vs':Nat->Int}:∀c,(∀i,i < c->vs i=vs' i)->declF f n part nm l vs c=declF f n part nm l vs' c/\declR R f n part nm l vs c=declR R f n part nm l vs' c
 |0,_=>⟨rfl,rfl⟩
 |c+1,h=>by
  obtain ⟨h1,h2⟩:=decl_congr R f n part nm l (vs:=vs) (vs':=vs') c (fun i hi=>h i Zo)
  simp only[declF,declR]
  rw[h1,h2,h c Zo]
  exact ⟨rfl,rfl⟩
theorem RowAt.fr {w w':World}(h:RowAt w base own 0 e z v els)(k:Fr own own' w w'):RowAt w' base own' 0 e z v els:=
 h.kept k.kept (fun g hg=>⟨(h.row.lt g hg).2,h.mine g hg⟩) k.tags
theorem Ws.loc {w0 w w1 w2:World}(h:Ws w0 w wp tv own V R B lp rs)(hw1:Onw w w1){row:Option Nat}(hgrow:w1.grownBy w2 row)(hrow:∀x,row=some x->own x=0/\w0.heap.size<=x):Ws w0 w2 wp tv own V R B lp rs:=by
 have hsz:=hw1.size
 have hgs:=hgrow.size
 have lt0:w0.heap.size<=w.heap.size:=h.wk.ov.size
 have K:Kept (fun k=>k < w.heap.size/\own k≠0) w w2:=fun k hk=>(hgrow.block k Zo (fun e=>hk.2 (hrow k e.symm).1)).trans (hw1.block k hk.1)
 refine ⟨⟨Below.grown (h.wk.ov.trans hw1) hgrow Zo (fun x hx=>(hrow x hx).2),h.wk.wpb,?_,h.wk.wpo,h.wk.low,fun k hk=>h.wk.high k Zo,fun j j1 j2=>?_⟩,h.lens,fun k hk=>?_⟩
 ·exact (K wp ⟨h.wk.blk.lt,by rw[h.wk.wpo];omega⟩).trans h.wk.blk
 ·have r:=h.wk.rows j j1 j2
  exact r.kept K (fun g hg=>⟨(r.row.lt g hg).2,by rw[r.mine g hg];omega⟩) (fun _ _=>rfl)
 ·obtain ⟨c,h1,h2⟩:=h.lvs k hk
  exact ⟨c,h1,h2.kept K (fun g hg ho=>⟨hg,by omega⟩) (fun _ _=>rfl) (Nat.le_refl _)⟩
theorem RowAt.app {w w1 w2:World}{x:List Value}{g cap n:Nat}(h:RowAt w base own 0 e z v els)(hn:els.length=n)(hx:x.length=z)(high:∀k,w.heap.size<=k->own k=0)(hw1:Onw w w1)(hown:w2.ownsRow base e z (.slice (some ⟨g,0,none⟩) (n+1:Nat) cap) (n+1) (els.flatten++x))(hwh:v.ownBlock=some g\/w1.heap.size<=g):RowAt w2 base own 0 e z (.slice (some ⟨g,0,none⟩) (n+1:Nat) cap) (els++ [x]):=by
 refine ⟨?_,fun y hy=>?_,fun y hy=>?_⟩
 ·exact J212
 ·rcases List.mem_append.1 hy with hy|hy
  ·exact h.len y hy
  ·rw[List.mem_singleton.1 hy];exact hx
 ·obtain rfl:g=y:=J312
  exact J189
def LRow (w:World) (base:Nat) (own:Nat->Nat) (oa:Option Addr) (n oc:Nat):Prop:=
 ∃ol,RowAt w base own 0 3 1 (.slice oa n oc) ol/\ol.length=n/\∀y∈ol,∃q:Int,y= [.int .i64 q]
theorem LRow.nil (w:World)(base:Nat)(own:Nat->Nat):LRow w base own none 0 0:=⟨[],⟨World.ownsRow_nil _ _ _ _,fun x hx=>by simp at hx,fun g hg=>by simp[Value.ownBlock] at hg⟩,rfl,fun y hy=>by simp at hy⟩
theorem LRow.fr {w w':World}{n oc:Nat}(h:LRow w base own oa n oc)(k:Fr own own' w w'):LRow w' base own' oa n oc:=by
 obtain ⟨ol,h1,h2,h3⟩:=h
 exact ⟨ol,h1.fr k,h2,h3⟩
theorem LRow.cell {n oc:Nat}(h:LRow w base own oa n oc){i:Nat}(hi:i < n):∃(g:Nat) (q:Int),oa=some ⟨g,0,none⟩/\base<=g/\own g=0/\n<=oc/\w.cell? ⟨g,i,none⟩=some (.int .i64 q):=by
 obtain ⟨ol,h1,h2,h3⟩:=h
 obtain ⟨g,cap,hv,hb,hc,ho,hcell,_⟩:=h1.form Zo
 simp only[Value.slice.injEq] at hv
 obtain ⟨e1,e2,e3⟩:=hv
 obtain ⟨y,hy⟩:∃y,ol[i]?= some y:=⟨ol[i],by simp[h2,hi]⟩
 obtain ⟨q,rfl⟩:=h3 y (List.mem_of_getElem? hy)
 exact ⟨g,q,e1,hb,ho,by omega,by have:=hcell i _ 0 hy Zo;simpa using this⟩
end Go.Proofs.YtlibofjbhhdjdaaGreat
