import Derived.Test.YtlibofjbhhdjdaaGreatQ
import Derived.Test.YtlibofjbhhdjdaaGreatP29
set_option linter.unusedSimpArgs false
set_option maxRecDepth 100000
set_option maxHeartbeats 16000000
namespace Go.Proofs.YtlibofjbhhdjdaaGreat
open Go.RowKit
attribute [local go_sem] rsf
variable {s:ByteArray} {w:World}
theorem zero_declared (w:World):(zeroValue 164).run Tryz.prog w= .ok (.agg #[.int .i64 0,.int .i64 0,.int .i64 0]) w:=by kernel_rfl
def foundV:Option (Ent×RSc)->Value
 |some (x,c)=> .tuple #[dval x,.pointer (some ⟨c.sb,0,none⟩)]
 |none=> .tuple #[.agg #[.int .i64 0,.int .i64 0,.int .i64 0],.pointer none]
def ptrM:Value->Nat
 | .pointer (some a)=>a.block+1
 |_=>0
theorem RChAt.onw {w w':World}(o:Onw w w'){ch:List RSc}(h:RChAt w ch):RChAt w' ch:=by
 refine RChAt.kept (p:=(·< w.heap.size)) (fun b hb=>o.block b hb) (fun c hc=>?_) h
 obtain ⟨⟨a,ha⟩,hm⟩:=h.blocks c hc
 exact ⟨ha.lt,fun b hb=>by obtain ⟨es,k,hh⟩:=hm b hb;exact heap_lt hh⟩
theorem look_map {mb:Option Nat}{L:List Ent}(h:mapAt w mb L)(s:ByteArray):
  (Instr.lookup 106 (.map mb) (.string s) true).run Tryz.prog w= .ok (match findE s L with|some x=> .tuple #[dval x,.bool true]|none=> .tuple #[.agg #[.int .i64 0,.int .i64 0,.int .i64 0],.bool false]) w:=by
 cases mb with
 |none=>
  have h:L= []:=h
  rw[h]
  exact run_look_nil Tryz.underlying106 Tryz.underlying9 s _ (zero_declared w)
 |some b=>
  obtain ⟨es,c,hb,hi⟩:=h
  exact run_look Tryz.underlying106 Tryz.underlying9 hb hi s _ (zero_declared w)
theorem find_any (ch:List RSc)(s:ByteArray)(w:World)(h:RChAt w ch):
  Calls Tryz.prog 89 #[.pointer (rptr ch),.string s] w fun e w'=>e= .returned (foundV (findC s ch))/\Onw w w':=by
 have H:Hid _:=h
 clear h
 have N0:=Blk.new w 164 #[.int .i64 0,.int .i64 0,.int .i64 0]
 have O0:=Onw.alloc w (Obj.cells #[.int .i64 0,.int .i64 0,.int .i64 0] 164)
 go_enter Tryz.func89,Tryz.ntmps89
 go_wp2_with fail
 obtain ⟨D,hD⟩:∃D,w.heap.size=D:=⟨_,rfl⟩
 have HD:Hid _:=hD
 rw[hD] at N0 ⊢
 clear hD
 generalize w.alloc (Obj.cells #[.int .i64 0,.int .i64 0,.int .i64 0] 164)=w1 at*
 go_loopw [0] (fun p wr=>∃r,p= .pointer (rptr r)/\Onw w1 wr/\RChAt wr r/\findC s ch=findC s r) (fun p _=>ptrM p)
 case atStart=>exact ⟨ch,rfl,Onw.refl _,H.out.onw O0,rfl⟩
 case round=>
  obtain ⟨r,rfl,ob,hr,hf⟩:=hrel
  have HF:Hid _:=hf
  have N1:=N0.onw ob
  have fr:=N1.free
  have z1:=N1.lt
  have e0:=Blk.at_ N1 0 rfl
  have e1:=Blk.at_ N1 1 rfl
  have e2:=Blk.at_ N1 2 rfl
  clear hf
  cases r with
  |nil=>
   go_wp2_with fail
   exact bodyPost_ret (v:= .tuple #[.agg #[.int .i64 0,.int .i64 0,.int .i64 0],.pointer none]) (by simp[results,Tryz.results89,go_sem,e0,e1,e2]) rfl ⟨by rw[HF.out];rfl,bset (bset (bset (O0.trans ob) J318 _) J318 _) J318 _⟩
  |cons c r=>
   obtain ⟨B,M,lt,sep,R⟩:=hr
   rw[show rptr (c::r)=some ⟨c.sb,0,none⟩ from rfl]
   have b0:=Blk.at_ B 0 rfl
   have b2:=Blk.at_ B 2 rfl
   have lk:=look_map M s
   have zB:=B.lt
   have HM:Hid _:=M
   have HR:Hid _:=R
   have HL:Hid _:=lt
   have HS:Hid _:=sep
   clear M R lt sep
   cases hx:findE s c.es with
   |none=>
    rw[hx] at lk
    go_wp2_with fail
    go_roundw
    case rel=>exact ⟨r,rfl,ob.trans (Onw.alloc _ _),HR.out.onw (Onw.alloc _ _),by rw[HF.out];simp only[findC,hx]⟩
    case measure=>
     cases r with
     |nil=>simp[ptrM,rptr]
     |cons d r=>have:=HL.out d List.mem_cons_self;simp[ptrM,rptr];omega
   |some x=>
    rw[hx] at lk
    simp only[dval] at lk
    go_wp2_with fail
    have N2:=(((N1.set 0 (.int .i64 (bif x.fixed then 3 else 1))).set 1 (.int .i64 x.part)).set 2 (.int .i64 x.place)).onw (Onw.alloc _ (Obj.cells #[.int .i64 (bif x.fixed then 3 else 1),.int .i64 x.part,.int .i64 x.place] 164))
    have O2:Hid _:=Onw.trans (bset (bset (bset (O0.trans ob) J319 (.int .i64 (bif x.fixed then 3 else 1)) (o:=0)) J319 (.int .i64 x.part) (o:=1)) J319 (.int .i64 x.place) (o:=2)) (Onw.alloc _ (Obj.cells #[.int .i64 (bif x.fixed then 3 else 1),.int .i64 x.part,.int .i64 x.place] 164))
    generalize World.alloc _ _=w4 at*
    have r0:=Blk.at_ N2 0 rfl
    have r1:=Blk.at_ N2 1 rfl
    have r2:=Blk.at_ N2 2 rfl
    exact bodyPost_ret (v:= .tuple #[dval x,.pointer (some ⟨c.sb,0,none⟩)]) (by simp[results,Tryz.results89,go_sem,r0,r1,r2,dval]) rfl ⟨by rw[HF.out];simp only[findC,hx,foundV],O2.out⟩
def kindB (k:Int) (same:Bool):Int:=bif (k==1)&&!same then 2 else k
theorem kindOf_any {rp sb cb:Nat}{sf cf:Int}(k part place:Int)(h0:w.cell? ⟨rp,0,none⟩=some (.pointer (some ⟨sb,0,none⟩)))(h1:w.cell? ⟨sb,1,none⟩=some (.int .i64 sf))(h2:w.cell? ⟨cb,1,none⟩=some (.int .i64 cf)):
  Calls Tryz.prog 90 #[.pointer (some ⟨rp,0,none⟩),.agg #[.int .i64 k,.int .i64 part,.int .i64 place],.pointer (some ⟨cb,0,none⟩)] w fun e w'=>e= .returned (.int .i64 (kindB k (cf==sf)))/\Onw w w':=by
 have z0:=clt h0
 have z1:=clt h1
 have z2:=clt h2
 cases c1:(k==1)
 ·have HK:Hid (kindB k (cf==sf)=k):=J316
  exact J94
 ·cases c2:(cf==sf)
  ·have HK:Hid (kindB k false=2):=J316
   have c3:(cf !=sf)=true:=by simp only[bne,c2];rfl
   exact J94
  ·have HK:Hid (kindB k true=k):=J316
   have c3:(cf !=sf)=false:=by simp only[bne,c2];rfl
   exact J94
abbrev bnames:Array Value:= #[.string {data:= #[112,114,105,110,116]},.string {data:= #[114,101,97,100]},.string {data:= #[116,121,112,101]},.string {data:= #[116,101,120,116]},.string {data:= #[115,101,116,107,105,110,100]},.string {data:= #[107,105,110,100]},.string {data:= #[114,97,119,103,101,116]},.string {data:= #[114,97,119,115,101,116]},.string {data:= #[116,97,115,107]},.string {data:= #[114,101,115,117,109,101]},.string {data:= #[121,105,101,108,100]},.string {data:= #[115,116,97,116,117,115]},.string {data:= #[103,105,118,101,117,112]},.string {data:= #[99,111,108,108,101,99,116]},.string {data:= #[99,101,108,108,115]}]
theorem bname_any (k:Nat)(hk:k < 15)(w:World):(Instr.index 214 (.agg bnames) (.int .i64 (k:Int))).run Tryz.prog w= .ok (.string (builtinAt k)) w:=by
 rcases (by omega:k=0\/k=1\/k=2\/k=3\/k=4\/k=5\/k=6\/k=7\/k=8\/k=9\/k=10\/k=11\/k=12\/k=13\/k=14) with rfl|rfl|rfl|rfl|rfl|rfl|rfl|rfl|rfl|rfl|rfl|rfl|rfl|rfl|rfl
 all_goals kernel_rfl
theorem builtin_inj:∀j:Fin 15,∀k:Fin 15,(builtinAt j).data.toList=(builtinAt k).data.toList->j=k:=Zb
theorem builtinB_at {k:Nat}(hk:k < 15)(h:builtinAt k=s):∀n,n<=15->builtinB s n=if k < n then some k else none
 |0,_=>by simp[builtinB]
 |n+1,hn=>by
  rw[builtinB]
  by_cases e:builtinAt n=s
  ·rw[same_name.2 e]
   have:(⟨n,by omega⟩:Fin 15)=⟨k,hk⟩:=builtin_inj _ _ (by show (builtinAt n).data.toList=(builtinAt k).data.toList;rw[e,h])
   have e2:n=k:=congrArg Fin.val this
   subst e2
   simp
  ·have e1:((builtinAt n).toList==s.toList)=false:=by
    cases e1:((builtinAt n).toList==s.toList)
    ·rfl
    ·exact absurd (same_name.1 e1) e
   rw[e1]
   simp only[cond_false]
   rw[builtinB_at hk h n Zo]
   have:k≠n:=fun e2=>e (e2▸h)
   by_cases e3:k < n
   ·rw[if_pos e3,if_pos Zo]
   ·rw[if_neg e3,if_neg Zo]
theorem builtinB_no :∀n,(∀j,j < n->builtinAt j≠s)->builtinB s n=none
 |0,_=>rfl
 |n+1,h=>by
  rw[builtinB]
  have e1:((builtinAt n).toList==s.toList)=false:=by
   cases e1:((builtinAt n).toList==s.toList)
   ·rfl
   ·exact absurd (same_name.1 e1) (h n Zo)
  rw[e1]
  exact builtinB_no n (fun j hj=>h j Zo)
def builtinI (s:ByteArray):Int:=match builtinB s 15 with
 |some b=>b
 |none=> -1
theorem str_beq {a b:ByteArray}(h:a≠b):(a.toList==b.toList)=false:=by
 cases e:(a.toList==b.toList)
 ·rfl
 ·exact absurd (same_name.1 e) h
theorem builtinOf_any (s:ByteArray)(w:World):
  Calls Tryz.prog 91 #[.string s] w fun e w'=>e= .returned (.int .i64 (builtinI s))/\Onw w w':=by
 go_enter Tryz.func91,Tryz.ntmps91
 go_wp2_with fail
 have O1:Hid _:=Onw.alloc w (Obj.cells bnames 214)
 generalize w.alloc (Obj.cells bnames 214)=w1 at*
 go_loopw [8] (fun i wr=>∃k:Nat,k<=15/\i= .int .i64 k/\wr=w1/\∀j,j < k->builtinAt j≠s) (fun i _=>15-(intOf i).toNat)
 case atStart=>exact ⟨0,by omega,rfl,rfl,fun j hj=>absurd hj (Nat.not_lt_zero _)⟩
 case round=>
  obtain ⟨k,hk,rfl,rfl,hj⟩:=hrel
  have HJ:Hid _:=hj
  clear hj
  by_cases hlt:k < 15
  ·have k0:(0:Int)<=(k:Int):=Zo
   have k2:(k:Int) < 15:=Zo
   have hb:=bname_any k hlt
   unfold bnames at hb
   by_cases he:builtinAt k=s
   ·have c1:((builtinAt k).toList==s.toList)=true:=same_name.2 he
    have HB:Hid (builtinI s=(k:Int)):=by show _=_;unfold builtinI;rw[builtinB_at hlt he 15 (Nat.le_refl _),if_pos hlt]
    exact J190
   ·have c1:((builtinAt k).toList==s.toList)=false:=str_beq he
    go_wp2_with fail
    go_roundw
    case rel=>
     refine ⟨k+1,by omega,by go_num,by first|exact trivial|rfl,fun j hj=>?_⟩
     by_cases e:j=k
     ·rw[e];exact he
     ·exact HJ.out j Zo
    case measure=>simp[intOf];omega
  ·obtain rfl:k=15:=Zo
   have HB:Hid (builtinI s= -1):=by show _=_;unfold builtinI;rw[builtinB_no 15 HJ.out]
   exact J190
end Go.Proofs.YtlibofjbhhdjdaaGreat
namespace Go.Proofs.YtlibofjbhhdjdaaGreat
open Go.RowKit
variable {r:List RSc} {l:Nat} {s t:RSc}
def useT (sc:List Ent) (l:Nat) (s:ByteArray):Int×Int×Int:=
 match findE s sc with
 |some x=>(bif x.fixed then 3 else bif x.fn==(l:Int) then 1 else 2,x.part,x.place)
 |none=>match builtinB s 15 with
  |some b=>(4,-1,b)
  |none=>(0,-1,0)
theorem useOf_eq (sc:List Ent)(l i:Nat)(s:ByteArray):useOf sc l i s= [.int .i64 i,.int .i64 (useT sc l s).1,.int .i64 (useT sc l s).2.1,.int .i64 (useT sc l s).2.2]:=by
 unfold useOf useT
 cases findE s sc with
 |some x=>rfl
 |none=>cases builtinB s 15 <;> rfl
structure LvOk (l:Nat) (ch:List RSc):Prop where
 le:∀c∈ch,c.lv<=l
 same:∀c∈ch,∀d∈ch,(c.fn=d.fn↔c.lv=d.lv)
 own:∀c∈ch,∀x∈c.es,x.fn=(c.lv:Int)
theorem kind_lv {t:ByteArray}{x:Ent}{c:RSc}(h:LvOk l (s::r))(hl:s.lv=l)(hf:findC t (s::r)=some (x,c)):kindB (bif x.fixed then 3 else 1) (c.fn==s.fn)=(bif x.fixed then 3 else bif x.fn==(l:Int) then 1 else 2):=by
 obtain ⟨hc,hx⟩:=findC_mem hf
 have e1:=h.own c hc x hx
 have e2:=h.same c hc s List.mem_cons_self
 unfold kindB
 cases x.fixed
 ·simp only[cond_false,BEq.rfl,Bool.true_and]
  by_cases e:c.lv=l
  ·have:c.fn=s.fn:=e2.2 (by rw[e,hl])
   rw[this,e1,e]
   simp
  ·have n1:c.fn≠s.fn:=fun k=>e (by rw[e2.1 k,hl])
   have n2:x.fn≠(l:Int):=by rw[e1];omega
   rw[show (c.fn==s.fn)=false from beq_eq_false_iff_ne.2 n1,show (x.fn==(l:Int))=false from beq_eq_false_iff_ne.2 n2]
   rfl
 ·rfl
theorem LvOk.tail (h:LvOk l (s::r)):LvOk l r:=
 ⟨fun c hc=>h.le c (List.mem_cons_of_mem _ hc),fun c hc d hd=>h.same c (List.mem_cons_of_mem _ hc) d (List.mem_cons_of_mem _ hd),fun c hc=>h.own c (List.mem_cons_of_mem _ hc)⟩
theorem LvOk.put (h:LvOk l (s::r)){es:List Ent}(he:∀x∈es,x.fn=(s.lv:Int)):LvOk l ({s with es:=es}::r):=by
 have m:∀c∈({s with es:=es}:RSc)::r,∃d∈s::r,c.fn=d.fn/\c.lv=d.lv:=fun c hc=>by
  rcases List.mem_cons.1 hc with rfl|hc
  ·exact ⟨s,List.mem_cons_self,rfl,rfl⟩
  ·exact ⟨c,List.mem_cons_of_mem _ hc,rfl,rfl⟩
 refine ⟨fun c hc=>?_,fun c hc d hd=>?_,fun c hc=>?_⟩
 ·exact J210
 ·exact J165
 ·rcases List.mem_cons.1 hc with rfl|hc
  ·exact he
  ·exact h.own c (List.mem_cons_of_mem _ hc)
theorem LvOk.push (h:LvOk l (s::r))(h1:t.fn=s.fn)(h2:t.lv=s.lv)(h3:t.es= []):LvOk l (t::s::r):=by
 have m:∀c∈t::s::r,∃d∈s::r,c.fn=d.fn/\c.lv=d.lv:=fun c hc=>by
  rcases List.mem_cons.1 hc with rfl|hc
  ·exact ⟨s,List.mem_cons_self,h1,h2⟩
  ·exact ⟨c,hc,rfl,rfl⟩
 refine ⟨fun c hc=>?_,fun c hc d hd=>?_,fun c hc=>?_⟩
 ·exact J210
 ·exact J165
 ·exact J178
theorem LvOk.pushFn {ch:List RSc}(h:LvOk l ch)(h1:∀c∈ch,t.fn≠c.fn)(h2:t.lv=l+1)(h3:t.es= []):LvOk (l+1) (t::ch):=by
 have lv:∀c∈ch,t.lv≠c.lv:=fun c hc=>by have:=h.le c hc;omega
 refine ⟨fun c hc=>?_,fun c hc d hd=>?_,fun c hc=>?_⟩
 ·rcases List.mem_cons.1 hc with rfl|hc
  ·omega
  ·have:=h.le c hc;omega
 ·rcases List.mem_cons.1 hc with hc1|hc1
  ·rcases List.mem_cons.1 hd with hd1|hd1
   ·rw[hc1,hd1];exact ⟨fun _=>rfl,fun _=>rfl⟩
   ·rw[hc1];exact ⟨fun e=>absurd e (h1 d hd1),fun e=>absurd e (lv d hd1)⟩
  ·rcases List.mem_cons.1 hd with hd1|hd1
   ·rw[hd1];exact ⟨fun e=>absurd e.symm (h1 c hc1),fun e=>absurd e.symm (lv c hc1)⟩
   ·exact h.same c hc1 d hd1
 ·exact J178
theorem declE_fn {i:Nat}{nm:Nat->ByteArray}{f:Bool}:∀{c:Nat},∀x∈declE i nm l f c,x.fn=(l:Int)
 |0,x,h=>by simp[declE] at h
 |c+1,x,h=>by
  rw[declE,List.mem_append,List.mem_singleton] at h
  rcases h with h|rfl
  ·exact declE_fn x h
  ·rfl
end Go.Proofs.YtlibofjbhhdjdaaGreat
namespace Go.Proofs.YtlibofjbhhdjdaaGreat
open Go.RowKit
attribute [local go_sem] rsf
variable {w:World}
theorem fn_cell :∀{ch:List RSc},RChAt w ch->∀c∈ch,w.cell? ⟨c.sb,1,none⟩=some (.int .i64 c.fn)
 | [],_,c,hc=>by simp at hc
 |s::r,h,c,hc=>by
  rcases List.mem_cons.1 hc with rfl|hc
  ·rw[h.1.cell];rfl
  ·exact fn_cell h.2.2.2.2 c hc
theorem useOf_any {w0 w:World}{rp:Nat}{v:Value}{us:List (List Value)}{s:RSc}{r:List RSc}{l:Nat}(m:PM)(p:Nat)(kk:Option Addr)(kn kc:Nat)(h:RdAt w0 w rp v us (s::r))(lv:LvOk l (s::r))(hl:s.lv=l):
  Calls Tryz.prog 72 #[.pointer (some ⟨rp,0,none⟩),.agg (XA m p kk kn kc)] w fun e w'=>e= .returned (.agg #[.int .i64 p,.int .i64 (useT (rflat (s::r)) l m.text).1,.int .i64 (useT (rflat (s::r)) l m.text).2.1,.int .i64 (useT (rflat (s::r)) l m.text).2.2])/\Onw w w':=by
 unfold XA
 have HH:Hid _:=h
 have HV:Hid _:=lv
 have HL:Hid _:=hl
 have b0:=Blk.at_ h.blk 0 rfl
 have z0:=clt b0
 clear h lv hl
 have O1:Hid _:=(Onw.alloc w (Obj.cells (XA m p kk kn kc) 141)).trans (Onw.alloc _ (Obj.cells #[.int .i64 0,.int .i64 0,.int .i64 0,.int .i64 0] 58))
 have N0:=(Blk.new w 141 (XA m p kk kn kc)).onw (Onw.alloc _ (Obj.cells #[.int .i64 0,.int .i64 0,.int .i64 0,.int .i64 0] 58))
 have N1:Blk _ (w.heap.size+1) 58 #[.int .i64 0,.int .i64 0,.int .i64 0,.int .i64 0]:=(show (w.alloc (Obj.cells #[.int .i64 p,.int .i64 m.kind,.int .i64 m.frm,.int .i64 m.tto,.int .i64 m.line,.int .i64 m.op,.int .i64 m.num,.float .f64 m.flt,.string m.text,.slice m.na m.nn m.nc,.slice m.ka m.nk m.kc,.slice kk kn kc] 141)).heap.size=w.heap.size+1 by simp)▸Blk.new (w.alloc (Obj.cells #[.int .i64 p,.int .i64 m.kind,.int .i64 m.frm,.int .i64 m.tto,.int .i64 m.line,.int .i64 m.op,.int .i64 m.num,.float .f64 m.flt,.string m.text,.slice m.na m.nn m.nc,.slice m.ka m.nk m.kc,.slice kk kn kc] 141)) 58 #[.int .i64 0,.int .i64 0,.int .i64 0,.int .i64 0]
 go_enter Tryz.func72,Tryz.ntmps72
 go_wp2_with fail
 obtain ⟨G,hG⟩:∃G,w.heap.size=G:=⟨_,rfl⟩
 obtain ⟨R,hR⟩:∃R,w.heap.size+1=R:=⟨_,rfl⟩
 rw[hR] at N1 ⊢
 rw[hG] at N0 ⊢
 have HG:Hid _:=hG
 have HR:Hid _:=hR
 have gR:G≠R:=Zo
 have rR:rp≠R:=Zo
 have rG:rp≠G:=Zo
 clear hG hR
 generalize (w.alloc (Obj.cells (XA m p kk kn kc) 141)).alloc (Obj.cells #[.int .i64 0,.int .i64 0,.int .i64 0,.int .i64 0] 58)=w1 at*
 refine (find_any (s::r) m.text _ (HH.out.sco.onw O1.out)).mono ?_
 rintro e w2 ⟨rfl,O2⟩
 have HO2:Hid _:=Onw.trans O1.out O2
 have HH2:Hid _:=HH.out.onw HO2.out
 replace N0:=N0.onw O2
 replace N1:=N1.onw O2
 clear O2 b0 z0
 have fr:=N1.free
 have zG:=N0.lt
 have zR:=N1.lt
 have b0:=Blk.at_ HH2.out.blk 0 rfl
 have b1:=Blk.at_ HH2.out.sco.1 1 rfl
 have zb0:=clt b0
 have zb1:=clt b1
 have p0:=Blk.at_ N0 0 rfl
 have q0:=Blk.at_ N1 0 rfl
 have q1:=Blk.at_ N1 1 rfl
 have q2:=Blk.at_ N1 2 rfl
 have q3:=Blk.at_ N1 3 rfl
 have flat:=findC_flat m.text (s::r)
 cases hx:findC m.text (s::r) with
 |none=>
  rw[hx] at flat
  have FL:Hid (findE m.text (rflat (s::r))=none):=flat
  clear flat hx
  simp only[foundV]
  go_wp2_with fail
  have O3:Hid _:=Onw.alloc w2 (Obj.cells #[.int .i64 0,.int .i64 0,.int .i64 0] 164)
  replace N1:=N1.onw O3.out
  replace p0:=con O3.out p0
  replace HO2:Hid (Onw w _):=Onw.trans HO2.out O3.out
  clear q0 q1 q2 q3 fr zG zR zb0 zb1 N0 HH2 HV HL HH O3 b0 b1
  generalize w2.alloc (Obj.cells #[.int .i64 0,.int .i64 0,.int .i64 0] 164)=w3 at*
  refine (builtinOf_any m.text _).mono ?_
  rintro e w4 ⟨rfl,O4⟩
  replace p0:=con O4 p0
  have N4:=N1.onw O4
  have fr:=N4.free
  have zG:=clt p0
  have zR:=N4.lt
  replace HO2:Hid (Onw w _):=Onw.trans HO2.out O4
  have q0:=Blk.at_ N4 0 rfl
  have q1:=Blk.at_ N4 1 rfl
  have q2:=Blk.at_ N4 2 rfl
  have q3:=Blk.at_ N4 3 rfl
  clear N1 O4
  cases hb:builtinB m.text 15 with
  |none=>
   rw[show builtinI m.text= -1 by unfold builtinI;rw[hb]]
   have HB:Hid _:=hb
   clear hb
   go_wp2_with fail
   clear q0 q1 q2 q3 fr
   have N5:=(((N4.set 0 (.int .i64 p)).set 1 (.int .i64 0)).set 2 (.int .i64 (-1))).set 3 (.int .i64 0)
   have O5:Hid _:=bset (bset (bset (bset (HO2.out) J274 (.int .i64 p) (b:=R) (o:=0)) J274 (.int .i64 0) (b:=R) (o:=1)) J274 (.int .i64 (-1)) (b:=R) (o:=2)) J274 (.int .i64 0) (b:=R) (o:=3)
   generalize World.setCell (World.setCell (World.setCell (World.setCell w4 ⟨R,0,none⟩ (.int .i64 p)) ⟨R,1,none⟩ (.int .i64 0)) ⟨R,2,none⟩ (.int .i64 (-1))) ⟨R,3,none⟩ (.int .i64 0)=w5 at*
   have y0:=Blk.at_ N5 0 rfl
   have y1:=Blk.at_ N5 1 rfl
   have y2:=Blk.at_ N5 2 rfl
   have y3:=Blk.at_ N5 3 rfl
   exact bodyPost_ret (v:= .agg #[.int .i64 p,.int .i64 0,.int .i64 (-1),.int .i64 0]) J295 rfl ⟨by unfold useT;rw[FL.out,HB.out],O5.out⟩
  |some b=>
   rw[show builtinI m.text=(b:Int) by unfold builtinI;rw[hb]]
   have HB:Hid _:=hb
   have nb:¬((b:Int)= -1):=Zo
   clear hb
   go_wp2_with fail
   clear q0 q1 q2 q3 fr
   have N5:=(((N4.set 0 (.int .i64 p)).set 1 (.int .i64 4)).set 2 (.int .i64 (-1))).set 3 (.int .i64 b)
   have O5:Hid _:=bset (bset (bset (bset (HO2.out) J274 (.int .i64 p) (b:=R) (o:=0)) J274 (.int .i64 4) (b:=R) (o:=1)) J274 (.int .i64 (-1)) (b:=R) (o:=2)) J274 (.int .i64 b) (b:=R) (o:=3)
   generalize World.setCell (World.setCell (World.setCell (World.setCell w4 ⟨R,0,none⟩ (.int .i64 p)) ⟨R,1,none⟩ (.int .i64 4)) ⟨R,2,none⟩ (.int .i64 (-1))) ⟨R,3,none⟩ (.int .i64 b)=w5 at*
   have y0:=Blk.at_ N5 0 rfl
   have y1:=Blk.at_ N5 1 rfl
   have y2:=Blk.at_ N5 2 rfl
   have y3:=Blk.at_ N5 3 rfl
   exact bodyPost_ret (v:= .agg #[.int .i64 p,.int .i64 4,.int .i64 (-1),.int .i64 b]) J295 rfl ⟨by unfold useT;rw[FL.out,HB.out],O5.out⟩
 |some xc=>
  obtain ⟨x,c⟩:=xc
  have KL:Hid _:=kind_lv HV.out HL.out hx
  obtain ⟨mc,mx⟩:=findC_mem hx
  obtain ⟨⟨ca,hca⟩,_⟩:=HH2.out.sco.blocks c mc
  rw[hx] at flat
  have FL:Hid (findE m.text (rflat (s::r))=some x):=flat
  have c1:w2.cell? ⟨c.sb,1,none⟩=some (.int .i64 c.fn):=fn_cell HH2.out.sco c mc
  have zc:=clt c1
  clear flat hx mc mx hca
  simp only[foundV,dval]
  go_wp2_with fail
  have O3:Hid _:=Onw.alloc w2 (Obj.cells #[.int .i64 (bif x.fixed then 3 else 1),.int .i64 x.part,.int .i64 x.place] 164)
  have N3:=Blk.new w2 164 #[.int .i64 (bif x.fixed then 3 else 1),.int .i64 x.part,.int .i64 x.place]
  obtain ⟨D,hD⟩:∃D,w2.heap.size=D:=⟨_,rfl⟩
  rw[hD] at N3 ⊢
  have nDR:D≠R:=Zo
  have nDG:D≠G:=Zo
  have nRD:R≠D:=fun h=>nDR h.symm
  have nRG:R≠G:=fun h=>gR h.symm
  clear hD
  replace N1:=N1.onw O3.out
  replace b0:=con O3.out b0
  replace b1:=con O3.out b1
  replace c1:=con O3.out c1
  replace p0:=con O3.out p0
  replace HO2:Hid (Onw w _):=Onw.trans HO2.out O3.out
  clear q0 q1 q2 q3 fr zG zR zb0 zb1 zc N0 HH2 HV HL HH O3
  generalize w2.alloc (Obj.cells #[.int .i64 (bif x.fixed then 3 else 1),.int .i64 x.part,.int .i64 x.place] 164)=w3 at*
  have d0:=Blk.at_ N3 0 rfl
  have d1:=Blk.at_ N3 1 rfl
  have d2:=Blk.at_ N3 2 rfl
  go_region_held3 (fun w'=>w'.cell? ⟨G,0,none⟩=some (.int .i64 p)/\w'.cell? ⟨D,0,none⟩=some (.int .i64 (bif x.fixed then 3 else 1))/\w'.cell? ⟨D,1,none⟩=some (.int .i64 x.part)/\w'.cell? ⟨D,2,none⟩=some (.int .i64 x.place)) (go_keep)
   (first|(go_at_call 90;refine (kindOf_any (w:=_) (rp:=rp) (sb:=s.sb) (cb:=c.sb) (bif x.fixed then 3 else 1) x.part x.place (by first|exact b0|exact con (Below.drew (Onw.refl _)) b0) (by first|exact b1|exact con (Below.drew (Onw.refl _)) b1) (by first|exact c1|exact con (Below.drew (Onw.refl _)) c1)).mono ?_;rintro e w4 ⟨rfl,O4⟩;have o4:=(show Onw w3 w4 from Onw.trans (Below.drew (Onw.refl _)) O4);have N4:=N1.onw o4;have fr4:=N4.free;have e0:=con o4 p0;have e1:=con o4 d0;have e2:=con o4 d1;have e3:=con o4 d2;have x0:w4.cell? ⟨R,0,none⟩=some (.int .i64 0):=by {rw[N4.cell];rfl};have x1:w4.cell? ⟨R,1,none⟩=some (.int .i64 0):=by {rw[N4.cell];rfl};have x2:w4.cell? ⟨R,2,none⟩=some (.int .i64 0):=by {rw[N4.cell];rfl};have x3:w4.cell? ⟨R,3,none⟩=some (.int .i64 0):=by {rw[N4.cell];rfl}))
  go_wp2_with fail
  clear e0 e1 e2 e3 x0 x1 x2 x3 fr4
  have N5:=(((N4.set 0 (.int .i64 p)).set 1 (.int .i64 (kindB (bif x.fixed then 3 else 1) (c.fn==s.fn)))).set 2 (.int .i64 x.part)).set 3 (.int .i64 x.place)
  have O5:Hid _:=bset (bset (bset (bset (Onw.trans HO2.out o4) J274 (.int .i64 p) (b:=R) (o:=0)) J274 (.int .i64 (kindB (bif x.fixed then 3 else 1) (c.fn==s.fn))) (b:=R) (o:=1)) J274 (.int .i64 x.part) (b:=R) (o:=2)) J274 (.int .i64 x.place) (b:=R) (o:=3)
  generalize World.setCell (World.setCell (World.setCell (World.setCell w4 ⟨R,0,none⟩ (.int .i64 p)) ⟨R,1,none⟩ (.int .i64 (kindB (bif x.fixed then 3 else 1) (c.fn==s.fn)))) ⟨R,2,none⟩ (.int .i64 x.part)) ⟨R,3,none⟩ (.int .i64 x.place)=w5 at*
  have y0:=Blk.at_ N5 0 rfl
  have y1:=Blk.at_ N5 1 rfl
  have y2:=Blk.at_ N5 2 rfl
  have y3:=Blk.at_ N5 3 rfl
  exact bodyPost_ret (v:= .agg #[.int .i64 p,.int .i64 (kindB (bif x.fixed then 3 else 1) (c.fn==s.fn)),.int .i64 x.part,.int .i64 x.place]) J295 rfl ⟨by rw[KL.out];unfold useT;rw[FL.out],O5.out⟩
end Go.Proofs.YtlibofjbhhdjdaaGreat
namespace Go.Proofs.YtlibofjbhhdjdaaGreat
open Go.RowKit
variable {us:List (List Value)} {ch:List RSc} {rp:Nat} {v:Value} {w w0:World}
theorem row_kept {w w':World}{base:Nat}{e:TypeId}{c n:Nat}{xs:List Value}(h:w.ownsRow base e c v n xs)(hk:∀g,v.ownBlock=some g->w'.heap[g]?= w.heap[g]?):w'.ownsRow base e c v n xs:=by
 refine ⟨h.1,?_⟩
 rcases h.2 with e|⟨g,cap,cur,hv,hb,hg,r⟩
 ·exact Or.inl e
 ·exact Or.inr ⟨g,cap,cur,hv,hb,(hk g (by rw[hv];rfl)).trans hg,r⟩
theorem RdAt.ptr {ch ch':List RSc}(h:RdAt w0 w rp v us ch)(hc:RChAt w ch')(hm:∀c∈ch',∀b,c.mb=some b->w0.heap.size<=b):RdAt w0 (w.setCell ⟨rp,0,none⟩ (.pointer (rptr ch'))) rp v us ch':=by
 have K:=ksc w rp 0 (.pointer (rptr ch'))
 refine ⟨bset h.on h.lo _,h.blk.set 0 _,row_kept h.row (fun g hg=>K g (fun e=>?_)),h.len,?_,h.lo,hm⟩
 ·subst e
  exact row_blk h.row h.blk Zb hg
 ·refine RChAt.kept K (fun c hx=>?_) hc
  obtain ⟨⟨a,ha⟩,hb⟩:=hc.blocks c hx
  refine ⟨blk_type ha h.blk Zb,fun b e=>?_⟩
  obtain ⟨es,k,hh⟩:=hb b e
  exact fun e2=>blk_map h.blk hh e2.symm
theorem RFr.ptr (w:World)(rp:Nat)(v:Value)(mb:Option Nat)(x:Value):RFr w (w.setCell ⟨rp,0,none⟩ x) rp v v mb:=⟨fun i hi=>ksc w rp 0 x i hi.2.1,by simp,Or.inl rfl⟩
theorem open_any (fn:Int)(h:RdAt w0 w rp v us ch):
  Calls Tryz.prog 87 #[.pointer (some ⟨rp,0,none⟩),.int .i64 fn] w fun e w'=>e= .returned (.tuple #[])/\∃sb mb,w.heap.size<=mb/\(∀lv,RdAt w0 w' rp v us (⟨sb,some mb,fn,lv, []⟩::ch))/\∀b,RFr w w' rp v v b:=by
 have HH:Hid _:=h
 have b0:=Blk.at_ h.blk 0 rfl
 have fr:=h.blk.free
 have z0:=clt b0
 clear h
 have hmm:= @run_makeMap Tryz.prog
 have O1:Hid _:=(Onw.alloc w (.map #[] 0)).trans (Onw.alloc _ (Obj.cells #[.pointer (rptr ch),.int .i64 fn,.map (some w.heap.size)] 108))
 have N1:Hid (Blk _ (w.heap.size+1) 108 #[.pointer (rptr ch),.int .i64 fn,.map (some w.heap.size)]):=(show (w.alloc (.map #[] 0)).heap.size=w.heap.size+1 by simp)▸Blk.new (w.alloc (.map #[] 0)) 108 #[.pointer (rptr ch),.int .i64 fn,.map (some w.heap.size)]
 have M1:Hid _:=heap_alloc_new w (.map #[] 0)
 go_enter Tryz.func87,Tryz.ntmps87
 go_wp2_with fail
 rw[<-World.setCell_alloc_past _ _ _ _ z0,<-World.setCell_alloc_past _ _ _ _ (show rp < (w.alloc (.map #[] 0)).heap.size by simp;omega)]
 refine bodyPost_end (v:= .tuple #[]) (results_none rfl _ _ _) rfl ⟨rfl,w.heap.size+1,w.heap.size,Nat.le_refl _,fun lv=>?_,fun b=>?_⟩
 ·refine RdAt.ptr (ch':=⟨w.heap.size+1,some w.heap.size,fn,lv, []⟩::ch) (HH.out.onw O1.out) ⟨N1.out,⟨#[],0,?_,MapIs.nil⟩,fun t ht=>?_,fun t ht b hb e=>?_,HH.out.sco.onw O1.out⟩ (fun c hc b hb=>?_)
  ·exact ((Onw.alloc (w.alloc (.map #[] 0)) (Obj.cells #[.pointer (rptr ch),.int .i64 fn,.map (some w.heap.size)] 108)).block _ (heap_lt M1.out)).trans M1.out
  ·obtain ⟨⟨a,ha⟩,_⟩:=HH.out.sco.blocks t ht
   have:=ha.lt
   show t.sb < w.heap.size+1
   omega
  ·obtain ⟨_,h2⟩:=HH.out.sco.blocks t ht
   obtain ⟨es,k,hh⟩:=h2 b hb
   have:=heap_lt hh
   simp only[Option.some.injEq] at e
   omega
  ·rcases List.mem_cons.1 hc with rfl|hc
   ·simp only[Option.some.injEq] at hb
    have:=HH.out.on.size
    omega
   ·exact HH.out.mlo c hc b hb
 ·exact (RFr.onw O1.out rp v b).trans (RFr.ptr _ _ _ _ _)
theorem close_d {s:RSc}{u:FrameMode}(h:RdAt w0 w rp v us (s::ch)):
  CallsD Tryz.prog 88 #[.pointer (some ⟨rp,0,none⟩)] u w fun e u' w'=>u'=u/\(e= .returned (.tuple #[])/\RdAt w0 w' rp v us ch/\∀b,RFr w w' rp v v b):=by
 have HH:Hid _:=h
 have b0:w.cell? ⟨rp,0,none⟩=some (.pointer (some ⟨s.sb,0,none⟩)):=Blk.at_ h.blk 0 rfl
 have b1:=Blk.at_ h.sco.1 0 rfl
 have fr:=h.blk.free
 have z0:=clt b0
 have z1:=clt b1
 clear h
 go_enter_d Tryz.func88,Tryz.ntmps88
 go_wp2_with fail
 exact bodyPost_end (v:= .tuple #[]) (results_none rfl _ _ _) rfl ⟨rfl,HH.out.ptr HH.out.sco.2.2.2.2 (fun c hc=>HH.out.mlo c (List.mem_cons_of_mem _ hc)),fun b=>RFr.ptr _ _ _ _ _⟩
end Go.Proofs.YtlibofjbhhdjdaaGreat
namespace Go.Proofs.YtlibofjbhhdjdaaGreat
open Go.RowKit
attribute [local go_sem] rsf
variable {us:List (List Value)} {r:List RSc} {mb rp:Nat} {s:RSc} {v:Value} {w:World}
theorem nilfunc_neq (w:World):(binOp BinOp.neq 81 .nilFunc .nilFunc).run Tryz.prog w= .ok (.bool false) w:=by kernel_rfl
def putB (w:World) (b:Nat) (o:Obj):World:={w with heap:=w.heap.setIfInBounds b o}
theorem cell_putB (w:World){b mb o:Nat}{x:Obj}(hb:b≠mb):(putB w mb x).cell? ⟨b,o,none⟩=w.cell? ⟨b,o,none⟩:=World.cell?_of_block (by
 show (w.heap.setIfInBounds mb _)[b]?= _
 rw[Array.getElem?_setIfInBounds,if_neg (fun e=>hb e.symm)])
theorem RdAt.decl {w0 w:World}(h:RdAt w0 w rp v us (s::r))(hm:s.mb=some mb){es:Array MapEntry}(c:Nat){L:List Ent}(he:MapIs es L):RdAt w0 (putB w mb (.map es c)) rp v us ({s with es:=L}::r)/\RFr w (putB w mb (.map es c)) rp v v s.mb:=by
 have M:=h.sco.2.1
 rw[hm] at M
 obtain ⟨es0,c0,hh,_⟩:=M
 have lt:=heap_lt hh
 have K:Kept (·≠mb) w (putB w mb (.map es c)):=fun k hk=>by
  show (w.heap.setIfInBounds mb _)[k]?= _
  rw[Array.getElem?_setIfInBounds,if_neg (fun e=>hk e.symm)]
 have nr:rp≠mb:=blk_map h.blk hh
 have nv:v.ownBlock≠some mb:=row_map h.row hh
 have lo:=h.mlo s List.mem_cons_self mb hm
 refine ⟨⟨Below.trans h.on ⟨rfl,rfl,rfl,by simp[putB],fun k hk=>K k Zo⟩,h.blk.kept K nr,row_kept h.row (fun g hg=>K g (fun e=>nv (e▸hg))),h.len,⟨h.sco.1.kept K (blk_map h.sco.1 hh),?_,h.sco.2.2.1,h.sco.2.2.2.1,RChAt.kept K (fun d hd=>⟨?_,fun b hb e=>h.sco.2.2.2.1 d hd b hb (by rw[hm,e])⟩) h.sco.2.2.2.2⟩,h.lo,fun d hd=>?_⟩,⟨fun k hk=>K k (fun e=>hk.2.2.2 (by rw[e,hm])),by simp[putB],Or.inl rfl⟩⟩
 ·show mapAt _ s.mb L
  rw[hm]
  exact ⟨es,c,by simp[putB,lt],he⟩
 ·obtain ⟨⟨a,ha⟩,_⟩:=h.sco.blocks d (List.mem_cons_of_mem _ hd)
  exact blk_map ha hh
 ·rcases List.mem_cons.1 hd with rfl|hd
  ·exact h.mlo s List.mem_cons_self
  ·exact h.mlo d (List.mem_cons_of_mem _ hd)
theorem declare_any {w0 w:World}(m:PM)(i:Nat)(kk:Option Addr)(kn kc:Nat)(K:Int)(fixed:Bool)(hK:K=bif fixed then 3 else 1)(h:RdAt w0 w rp v us (s::r))(hm:s.mb=some mb)(hs:StrsAt w0 m.na m.nn m.nm)(hn:m.nn<=200):
  Calls Tryz.prog 70 #[.pointer (some ⟨rp,0,none⟩),.agg (XA m i kk kn kc),.int .i64 K] w fun e w'=>e= .returned (.tuple #[])/\RdAt w0 w' rp v us ({s with es:=s.es++declE i m.nm s.lv fixed m.nn}::r)/\RFr w w' rp v v s.mb:=by
 unfold XA
 have HH:Hid _:=h
 have HS:Hid _:=hs
 have HM:Hid _:=hm
 have HK:Hid _:=hK
 clear h hs hm hK
 have O0:Hid _:=Onw.alloc w (Obj.cells (XA m i kk kn kc) 104)
 have N0:=Blk.new w 104 (XA m i kk kn kc)
 go_enter Tryz.func70,Tryz.ntmps70
 go_wp2_with fail
 obtain ⟨G,hG⟩:∃G,w.heap.size=G:=⟨_,rfl⟩
 rw[hG] at N0 ⊢
 have HG:Hid _:=hG
 clear hG
 have HH1:Hid _:=HH.out.onw O0.out
 have F0:Hid _:=RFr.onw O0.out rp v s.mb
 generalize w.alloc (Obj.cells (XA m i kk kn kc) 104)=w1 at*
 go_loopw [13] (fun q wr=>∃k:Nat,k<=m.nn/\q= .int .i64 k/\RdAt w0 wr rp v us ({s with es:=s.es++declE i m.nm s.lv fixed k}::r)/\RFr w1 wr rp v v s.mb) (fun q _=>m.nn-(intOf q).toNat)
 case atStart=>exact ⟨0,Nat.zero_le _,rfl,by simpa[declE] using HH1.out,RFr.refl _ _ _ _⟩
 case round=>
  obtain ⟨k,hk,rfl,hr,hf⟩:=hrel
  have HR:Hid _:=hr
  have HF:Hid _:=hf
  have M:=hr.sco.2.1
  have hm':s.mb=some mb:=HM.out
  rw[show ({s with es:=s.es++declE i m.nm s.lv fixed k}:RSc).mb=some mb from hm'] at M
  obtain ⟨es,c,hh,hi⟩:=M
  have B1:Blk wr G 104 _:=N0.kept hf.kept ⟨N0.lt,blk_type N0 HH1.out.blk Zb,row_blk HH1.out.row N0 Zb,fun e=>by
   obtain ⟨es',c',hh',_⟩:=show mapAt w1 (some mb) s.es from HM.out▸HH1.out.sco.2.1
   rw[HM.out] at e
   simp only[Option.some.injEq] at e
   exact blk_map N0 hh' e.symm⟩
  clear hm'
  by_cases hlt:k < m.nn
  ·obtain ⟨b,off,ha,hc⟩:=HS.out Zo
   have c0:wr.cell? ⟨b,off+k,none⟩=some (.string (m.nm k)):=con hr.on (hc k hlt)
   have g0:=Blk.at_ B1 0 rfl
   have r0:wr.cell? ⟨rp,0,none⟩=some (.pointer (some ⟨s.sb,0,none⟩)):=Blk.at_ hr.blk 0 rfl
   have r2:wr.cell? ⟨rp,2,none⟩=some .nilFunc:=by rw[hr.blk.cell];rfl
   have s2:wr.cell? ⟨s.sb,2,none⟩=some (.map (some mb)):=by rw[hr.sco.1.cell,<-HM.out];rfl
   obtain ⟨es',c',hu,hi'⟩:=run_upd (P:=Tryz.prog) (b:=mb) (c:=c) Tryz.underlying106 Tryz.underlying9 hi ⟨m.nm k,i,k,s.lv,fixed⟩
   have HI:Hid _:=hi'
   have HU:Hid _:=hu
   have HB:Hid _:=hh
   have za:=clt c0
   have zg:=clt g0
   have zr:=clt r0
   have zs:=clt s2
   have k0:(0:Int)<=(k:Int):=Zo
   have k2:(k:Int) < (m.nn:Int):=Zo
   rw[ha]
   clear hr hf hc hh hi hi' hu B1 ha
   have hnf:∀w:World,(binOp BinOp.neq 81 .nilFunc .nilFunc).run Tryz.prog w= .ok (.bool false) w:=nilfunc_neq
   go_wp2_with fail
   have O2:Hid _:=Onw.alloc wr (Obj.cells #[.int .i64 K,.int .i64 i,.int .i64 k] 164)
   have N2:=Blk.new wr 164 #[.int .i64 K,.int .i64 i,.int .i64 k]
   have hh2:(wr.alloc (Obj.cells #[.int .i64 K,.int .i64 i,.int .i64 k] 164)).heap[mb]?= some (.map es c):=(O2.out.block mb (heap_lt HB.out)).trans HB.out
   have r0':=con O2.out r0
   have s2':=con O2.out s2
   clear r0 s2 r2 g0 c0
   generalize wr.alloc (Obj.cells #[.int .i64 K,.int .i64 i,.int .i64 k] 164)=w2 at*
   obtain ⟨D,hD⟩:∃D,wr.heap.size=D:=⟨_,rfl⟩
   rw[hD] at N2 ⊢
   clear hD
   have d0:=Blk.at_ N2 0 rfl
   have d1:=Blk.at_ N2 1 rfl
   have d2:=Blk.at_ N2 2 rfl
   have hup:∀w':World,w'.heap[mb]?= some (.map es c)->(Instr.mapUpdate 106 (.map (some mb)) (.string (m.nm k)) (.agg #[.int .i64 K,.int .i64 i,.int .i64 k])).run Tryz.prog w'= .ok () (putB w' mb (.map es' c')):=fun w' h=>by
    rw[HK.out];exact HU.out w' h
   have hput:∀(w':World) (b' o':Nat),b'≠mb->(putB w' mb (.map es' c')).cell? ⟨b',o',none⟩=w'.cell? ⟨b',o',none⟩:=fun w' b' o' hb=>cell_putB w' hb
   have n1:rp≠mb:=blk_map (HR.out.onw O2.out).blk hh2
   have n2:s.sb≠mb:=blk_map (HR.out.onw O2.out).sco.1 hh2
   have n3:D≠mb:=blk_map N2 hh2
   have hdr:∀w':World,w'.drew.heap=w'.heap:=fun _=>rfl
   go_region_held3 (fun w'=>w'.cell? ⟨rp,0,none⟩=some (.pointer (some ⟨s.sb,0,none⟩))/\w'.cell? ⟨s.sb,2,none⟩=some (.map (some mb))/\w'.cell? ⟨D,0,none⟩=some (.int .i64 K)/\w'.cell? ⟨D,1,none⟩=some (.int .i64 i)/\w'.cell? ⟨D,2,none⟩=some (.int .i64 k)) (go_keep) (fail)
   have D1:RdAt w0 w2.drew rp v us ({s with es:=s.es++declE i m.nm s.lv fixed k}::r):=(HR.out.onw O2.out).onw (Below.drew (Onw.refl _))
   obtain ⟨D2,D3⟩:=D1.decl (mb:=mb) HM.out c' HI.out
   have HD2:Hid _:=D2
   have HD3:Hid _:=((RFr.onw O2.out rp v s.mb).trans (RFr.onw (Below.drew (Onw.refl w2)) rp v s.mb)).trans D3
   clear D1 D2 D3 hput hup hnf hdr
   generalize putB w2.drew mb (.map es' c')=w3 at*
   go_wp2_with fail
   go_roundw
   case rel=>exact ⟨k+1,by omega,by go_num,by simpa only [declE,List.append_assoc] using HD2.out,HF.out.trans HD3.out⟩
   case measure=>simp[intOf];omega
  ·obtain rfl:k=m.nn:=Zo
   go_wp2_with fail
   exact bodyPost_end (v:= .tuple #[]) (results_none rfl _ _ _) rfl ⟨rfl,HR.out,F0.out.trans HF.out⟩
end Go.Proofs.YtlibofjbhhdjdaaGreat
