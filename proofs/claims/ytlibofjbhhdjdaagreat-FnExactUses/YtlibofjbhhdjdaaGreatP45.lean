import Derived.Test.YtlibofjbhhdjdaaGreatQ
import Derived.Test.YtlibofjbhhdjdaaGreatP01
import Derived.Test.YtlibofjbhhdjdaaGreatP43
import Derived.Test.YtlibofjbhhdjdaaGreatP42
set_option linter.unusedSimpArgs false
set_option maxRecDepth 100000
set_option maxHeartbeats 16000000
namespace Go.Proofs.YtlibofjbhhdjdaaGreat
open Go.RowKit
attribute [local go_sem] rsf
variable {us:List (List Value)} {rp:Nat} {v:Value}
theorem RdAt.push {w0 w w1:World}{ch:List RSc}(h:RdAt w0 w rp v us ch){g cap:Nat}{x:List Value}(hx:x.length=4)(hown:w1.ownsRow w0.heap.size 58 4 (.slice (some ⟨g,0,none⟩) (us.length+1) cap) (us.length+1) (us.flatten++x))(hg:w.grownBy w1 v.ownBlock)(hw:v.ownBlock=some g\/w.heap.size<=g):
  RdAt w0 (w1.setCell ⟨rp,1,none⟩ (.slice (some ⟨g,0,none⟩) (us.length+1) cap)) rp (.slice (some ⟨g,0,none⟩) (us.length+1) cap) (us++ [x]) ch/\∀mb,RFr w (w1.setCell ⟨rp,1,none⟩ (.slice (some ⟨g,0,none⟩) (us.length+1) cap)) rp v (.slice (some ⟨g,0,none⟩) (us.length+1) cap) mb:=by
 have K:=ksc w1 rp 1 (.slice (some ⟨g,0,none⟩) (us.length+1) cap)
 have nr:=row_blk h.row h.blk Zb
 have lt:=h.blk.lt
 have gr:g≠rp:=fun e=>by
  rcases hw with hw|hw
  ·exact nr (e▸hw)
  ·omega
 have lo:∀k,v.ownBlock=some k->w0.heap.size<=k:=fun k hk=>by
  rcases h.row.2 with ⟨e,_⟩|⟨g',cap',cur,e,hb,_⟩
  ·rw[e] at hk;simp[Value.ownBlock] at hk
  ·rw[e] at hk
   simp only[Value.ownBlock,Option.some.injEq] at hk
   omega
 have KK:Kept (fun b=>b < w.heap.size/\b≠rp/\v.ownBlock≠some b) w (w1.setCell ⟨rp,1,none⟩ (.slice (some ⟨g,0,none⟩) (us.length+1) cap)):=fun b hb=>(K b hb.2.1).trans (hg.block b hb.1 (fun e=>hb.2.2 e.symm))
 refine ⟨⟨bset (Below.grown h.on hg h.on.size lo) h.lo _,?_,?_,?_,?_,h.lo,h.mlo⟩,fun mb=>⟨fun b hb=>KK b ⟨hb.1,hb.2.1,hb.2.2.1⟩,?_,?_⟩⟩
 ·have B1:Blk w1 rp 83 _:=(hg.block rp lt (fun e=>nr e.symm)).trans h.blk
  exact B1.set 1 _
 ·have e:(us++ [x]).length=us.length+1:=J269
  have e2:(us++ [x]).flatten=us.flatten++x:=J269
  rw[e,e2]
  exact row_kept hown (fun k hk=>K k (fun e=>by
   simp only[Value.ownBlock,Option.some.injEq] at hk
   exact gr (hk.trans e)))
 ·intro y hy
  rcases List.mem_append.1 hy with hy|hy
  ·exact h.len y hy
  ·rw[List.mem_singleton] at hy;rw[hy];exact hx
 ·refine RChAt.kept KK (fun c hc=>?_) h.sco
  obtain ⟨⟨a,ha⟩,hm⟩:=h.sco.blocks c hc
  refine ⟨⟨ha.lt,blk_type ha h.blk Zb,row_blk h.row ha Zb⟩,fun b hb=>?_⟩
  obtain ⟨es,k,hh⟩:=hm b hb
  exact ⟨heap_lt hh,fun e=>blk_map h.blk hh e.symm,row_map h.row hh⟩
 ·have:=hg.size
  simpa using this
 ·rcases hw with hw|hw
  ·exact Or.inl hw.symm
  ·exact Or.inr (fun k hk=>by simp only[Value.ownBlock,Option.some.injEq] at hk;omega)
theorem read_name {w0 w:World}{s:RSc}{r:List RSc}{l:Nat}(m:PM)(i:Nat)(kk:Option Addr)(h:RdAt w0 w rp v us (s::r))(lv:LvOk l (s::r))(hl:s.lv=l)(hb:us.length+1<=1048576):
  Calls Tryz.prog 44 #[.pointer (some ⟨rp,0,none⟩),.iface 141 (.agg (XA m i kk m.nk m.nk))] w fun e w'=>e= .returned (.tuple #[])/\RdPost w0 rp w v us s r w' ([useOf (rflat (s::r)) l i m.text],rflat (s::r)):=by
 unfold XA
 have HH:Hid _:=h
 have HLV:Hid _:=lv
 have HHL:Hid _:=hl
 clear h lv hl
 have a_block:=as_block_no (t:=141) Zb
 have a_let:=as_let_no (t:=141) Zb
 have a_const:=as_const_no (t:=141) Zb
 have a_ownFn:=as_ownFn_no (t:=141) Zb
 have a_for:=as_for_no (t:=141) Zb
 have a_each:=as_each_no (t:=141) Zb
 have a_try:=as_try_no (t:=141) Zb
 have a_fn:=as_fn_no (t:=141) Zb
 have a_name:=as_name_yes
 have O0:Hid _:=Onw.alloc w (Obj.cells (XA m i kk m.nk m.nk) 141)
 have N1:=Blk.new w 141 (XA m i kk m.nk m.nk)
 go_enter Tryz.func44,Tryz.ntmps44
 go_wp2_with fail
 obtain ⟨G,hG⟩:∃G,w.heap.size=G:=⟨_,rfl⟩
 rw[hG] at N1 ⊢
 have HG:Hid _:=hG
 clear hG
 have HH1:Hid _:=HH.out.onw O0.out
 generalize w.alloc (Obj.cells (XA m i kk m.nk m.nk) 141)=w1 at*
 have g0:=Blk.at_ N1 0 rfl
 have g1:=Blk.at_ N1 1 rfl
 have g2:=Blk.at_ N1 2 rfl
 have g3:=Blk.at_ N1 3 rfl
 have g4:=Blk.at_ N1 4 rfl
 have g5:=Blk.at_ N1 5 rfl
 have g6:=Blk.at_ N1 6 rfl
 have g7:=Blk.at_ N1 7 rfl
 have g8:=Blk.at_ N1 8 rfl
 have g9:=Blk.at_ N1 9 rfl
 have g10:=Blk.at_ N1 10 rfl
 have g11:=Blk.at_ N1 11 rfl
 have zg:=clt g0
 have r1:w1.cell? ⟨rp,1,none⟩=some v:=by rw[HH1.out.blk.cell];rfl
 have zr:=clt r1
 have nG:rp≠G:=(blk_type HH1.out.blk N1 Zb)
 have nG2:G≠rp:=fun e=>nG e.symm
 obtain ⟨q0,hq,hz0,hz1,hz2⟩:=info_parts info_use
 have HN1:Hid _:=N1
 clear N1
 go_wp2_with fail
 refine wp_region_held_drew (S:=(fun w'=>Blk w' G 141 #[.int .i64 i,.int .i64 m.kind,.int .i64 m.frm,.int .i64 m.tto,.int .i64 m.line,.int .i64 m.op,.int .i64 m.num,.float .f64 m.flt,.string m.text,.slice m.na m.nn m.nc,.slice m.ka m.nk m.kc,.slice kk m.nk m.nk])) (by kernel_rfl) (by exact Blk.onw (Below.drew (Onw.refl w1)) HN1.out) (fun hHeld=>?_)
 refine tk 0 ?_
 refine tk 1 ?_
 refine tk 2 ?_
 refine tk 3 ?_
 refine tk 5 ?_
 refine wpAnyH_take (i:=6) (v:=?_) rfl (by kernel_rfl) (by kernel_rfl) (by kernel_rfl) (fun _ _ _ h=>h) (Or.inl ⟨by rfl,?_⟩) J304 ?_
 rotate_left
 ·(intro w hSw;(try dsimp only at hSw);have h0:w.cell? ⟨G,0,none⟩=some (.int .i64 i):=(Blk.cell hSw 0).trans rfl;have h1:w.cell? ⟨G,1,none⟩=some (.int .i64 m.kind):=(Blk.cell hSw 1).trans rfl;have h2:w.cell? ⟨G,2,none⟩=some (.int .i64 m.frm):=(Blk.cell hSw 2).trans rfl;have h3:w.cell? ⟨G,3,none⟩=some (.int .i64 m.tto):=(Blk.cell hSw 3).trans rfl;have h4:w.cell? ⟨G,4,none⟩=some (.int .i64 m.line):=(Blk.cell hSw 4).trans rfl;have h5:w.cell? ⟨G,5,none⟩=some (.int .i64 m.op):=(Blk.cell hSw 5).trans rfl;have h6:w.cell? ⟨G,6,none⟩=some (.int .i64 m.num):=(Blk.cell hSw 6).trans rfl;have h7:w.cell? ⟨G,7,none⟩=some (.float .f64 m.flt):=(Blk.cell hSw 7).trans rfl;have h8:w.cell? ⟨G,8,none⟩=some (.string m.text):=(Blk.cell hSw 8).trans rfl;have h9:w.cell? ⟨G,9,none⟩=some (.slice m.na m.nn m.nc):=(Blk.cell hSw 9).trans rfl;have h10:w.cell? ⟨G,10,none⟩=some (.slice m.ka m.nk m.kc):=(Blk.cell hSw 10).trans rfl;have h11:w.cell? ⟨G,11,none⟩=some (.slice kk m.nk m.nk):=(Blk.cell hSw 11).trans rfl;have zz:=clt h0;clear hSw;go_simp;try (with_reducible rfl))
 simp only[gA,gB,gC,Act.put,gD,gE,gF]
 refine rd [4,7] ?_
 refine AllReadyH.cons rfl (fun K hK=>?_) ?_
 ·simp only[gA,gB,gC]
  go_simp
  refine hK.out _ _ (by exact hHeld) (fun hHeld=>?_)
  clear hK K
  try simp only[gA,gB,gC,Act.put,gD,gE,gF]
  refine rd [7] ?_
  refine AllReadyH.cons rfl (fun K hK=>?_) ?_
  ·simp only[gA,gB,gC]
   go_simp
   refine (useOf_any m i kk m.nk m.nk (HH1.out.onw (Below.drew (Onw.refl _))) HLV.out HHL.out).mono ?_
   rintro e w2 ⟨rfl,O2⟩
   have o2:=(show Onw w1 w2 from Onw.trans (Below.drew (Onw.refl _)) O2)
   have O2':Hid _:=o2
   have c1:=con o2 r1
   have zr2:=clt c1
   have N2:Hid _:=Blk.onw o2 HN1.out
   clear o2 O2
   refine hK.out _ _ N2.out (fun hHeld=>?_)
   exact J96
  exact AllReadyH.nil
 refine AllReadyH.cons rfl (fun K hK=>?_) ?_
 ·simp only[gA,gB,gC]
  go_simp
  refine (useOf_any m i kk m.nk m.nk (HH1.out.onw (Below.drew (Onw.refl _))) HLV.out HHL.out).mono ?_
  rintro e w2 ⟨rfl,O2⟩
  have o2:=(show Onw w1 w2 from Onw.trans (Below.drew (Onw.refl _)) O2)
  have O2':Hid _:=o2
  have c1:=con o2 r1
  have zr2:=clt c1
  have N2:Hid _:=Blk.onw o2 HN1.out
  clear o2 O2
  refine hK.out _ _ N2.out (fun hHeld=>?_)
  clear hK K
  try simp only[gA,gB,gC,Act.put,gD,gE,gF]
  refine rd [4,8] ?_
  refine AllReadyH.cons rfl (fun K hK=>?_) ?_
  ·simp only[gA,gB,gC]
   go_simp
   refine hK.out _ _ (by exact hHeld) (fun hHeld=>?_)
   exact J96
  refine AllReadyH.cons rfl (fun K hK=>?_) ?_
  ·simp only[gA,gB,gC]
   go_simp
   refine hK.out _ _ (by exact Blk.onw (Onw.alloc w2 _) N2.out) (fun hHeld=>?_)
   clear hK K
   try simp only[gA,gB,gC,Act.put,gD,gE,gF]
   refine rd [4] ?_
   refine AllReadyH.cons rfl (fun K hK=>?_) ?_
   ·simp only[gA,gB,gC]
    go_simp
    refine hK.out _ _ (by exact hHeld) (fun hHeld=>?_)
    exact J14
   exact AllReadyH.nil
  exact AllReadyH.nil
 exact AllReadyH.nil
end Go.Proofs.YtlibofjbhhdjdaaGreat
