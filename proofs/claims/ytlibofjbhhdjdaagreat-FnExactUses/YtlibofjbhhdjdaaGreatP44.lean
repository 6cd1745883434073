import Derived.Test.YtlibofjbhhdjdaaGreatQ
import Derived.Test.YtlibofjbhhdjdaaGreatP43
import Derived.Test.YtlibofjbhhdjdaaGreatP42
set_option linter.unusedSimpArgs false
set_option maxRecDepth 100000
set_option maxHeartbeats 16000000
namespace Go.Proofs.YtlibofjbhhdjdaaGreat
open Go.RowKit
attribute [local go_sem] rsf
variable {us:List (List Value)} {r:List RSc} {l mb rp:Nat} {sz:Nat->Nat} {pk:Nat->Option Addr} {pm:Nat->PM} {s:RSc} {v:Value} {w w0:World}
theorem read_let (m:PM)(i:Nat)(kk:Option Addr)(hn:m.nk<=200)(hnn:m.nn<=200)(hs:StrsAt w0 m.na m.nn m.nm)(hm:s.mb=some mb)(same:(seqE (wE (pdOf pm) l) m.kd 0 m.nk (rflat (s::r))).2=rflat (s::r))(hv:ValsAt w0 kk m.nk (fun j=>pv (some (pxOf pm pk (m.kd j).toNat))))(ok:∀j,j < m.nk->ReadOk w0 rp pm pk sz (m.kd j).toNat)(h:RdAt w0 w rp v us (s::r))(lv:LvOk l (s::r))(hl:s.lv=l)(hf:∀j,j < m.nk->∀c∈s::r,((m.kd j).toNat:Int) < c.fn)(hz:us.length+psum sz m.kd m.nk<=1048576)(len:∀j,j < m.nk->∀sc,(wE (pdOf pm) l (m.kd j).toNat sc).1.length<=sz (m.kd j).toNat):
  Calls Tryz.prog 44 #[.pointer (some ⟨rp,0,none⟩),.iface 131 (.agg (XA m i kk m.nk m.nk))] w fun e w'=>e= .returned (.tuple #[])/\RdPost w0 rp w v us s r w' ((seqE (wE (pdOf pm) l) m.kd 0 m.nk (rflat (s::r))).1,rflat (s::r)++declE i m.nm l false m.nn):=by
 unfold XA
 have HH:Hid _:=h
 have HHV:Hid _:=hv
 have HOK:Hid _:=ok
 have HLV:Hid _:=lv
 have HHL:Hid _:=hl
 have HHF:Hid _:=hf
 have HHZ:Hid _:=hz
 have HLEN:Hid _:=len
 have HHS:Hid _:=hs
 have HHM:Hid _:=hm
 have HSAME:Hid _:=same
 clear h hv ok lv hl hf hz len hs hm same
 have a_block:=as_block_no (t:=131) Zb
 have a_let:=as_let_yes
 have O0:Hid _:=Onw.alloc w (Obj.cells (XA m i kk m.nk m.nk) 131)
 have N1:=Blk.new w 131 (XA m i kk m.nk m.nk)
 go_enter Tryz.func44,Tryz.ntmps44
 go_wp2_with fail
 obtain ⟨G,hG⟩:∃G,w.heap.size=G:=⟨_,rfl⟩
 rw[hG] at N1 ⊢
 have HG:Hid _:=hG
 clear hG
 have HH1:Hid _:=HH.out.onw O0.out
 generalize w.alloc (Obj.cells (XA m i kk m.nk m.nk) 131)=w1 at*
 refine (readAll_any (mb:=mb) m.kd m.nk kk m.nk hn HHV.out HOK.out HH1.out HLV.out HHL.out HHM.out HHF.out HHZ.out HLEN.out).mono ?_
 rintro e w2 ⟨rfl,v1,es1,R1,E1,F1,L1⟩
 have e1:es1=s.es:=by
  exact J179
 subst e1
 have HR1:Hid (RdAt w0 w2 rp v1 _ (s::r)):=R1
 have HF1:Hid _:=F1
 have N2:=N1.kept F1.kept (HH1.out.free HH1.out.map N1 Zb Zb)
 clear R1 E1 F1 L1 N1
 have g0:=Blk.at_ N2 0 rfl
 have g1:=Blk.at_ N2 1 rfl
 have g2:=Blk.at_ N2 2 rfl
 have g3:=Blk.at_ N2 3 rfl
 have g4:=Blk.at_ N2 4 rfl
 have g5:=Blk.at_ N2 5 rfl
 have g6:=Blk.at_ N2 6 rfl
 have g7:=Blk.at_ N2 7 rfl
 have g8:=Blk.at_ N2 8 rfl
 have g9:=Blk.at_ N2 9 rfl
 have g10:=Blk.at_ N2 10 rfl
 have g11:=Blk.at_ N2 11 rfl
 have zg:=clt g0
 go_wp2_with fail
 refine (declare_any (mb:=mb) m i _ _ _ 1 false rfl HR1.out HHM.out HHS.out hnn).mono ?_
 rintro e w3 ⟨rfl,R3,F3⟩
 have HP3:Hid (RdPost w0 rp w v us s r w3 ((seqE (wE (pdOf pm) l) m.kd 0 m.nk (rflat (s::r))).1,rflat (s::r)++declE i m.nm l false m.nn)):=⟨v1,_,R3,by rw[<-HHL.out];exact (List.append_assoc _ _ _).symm,((RFr.onw O0.out rp v s.mb).trans HF1.out).trans F3,fun x hx=>by
  rcases List.mem_append.1 hx with hx|hx
  ·exact HLV.out.own s List.mem_cons_self x hx
  ·exact declE_fn x hx⟩
 exact J217
theorem read_const (m:PM)(i:Nat)(kk:Option Addr)(hn:m.nk<=200)(hnn:m.nn<=200)(hs:StrsAt w0 m.na m.nn m.nm)(hm:s.mb=some mb)(same:(seqE (wE (pdOf pm) l) m.kd 0 m.nk (rflat (s::r))).2=rflat (s::r))(hv:ValsAt w0 kk m.nk (fun j=>pv (some (pxOf pm pk (m.kd j).toNat))))(ok:∀j,j < m.nk->ReadOk w0 rp pm pk sz (m.kd j).toNat)(h:RdAt w0 w rp v us (s::r))(lv:LvOk l (s::r))(hl:s.lv=l)(hf:∀j,j < m.nk->∀c∈s::r,((m.kd j).toNat:Int) < c.fn)(hz:us.length+psum sz m.kd m.nk<=1048576)(len:∀j,j < m.nk->∀sc,(wE (pdOf pm) l (m.kd j).toNat sc).1.length<=sz (m.kd j).toNat):
  Calls Tryz.prog 44 #[.pointer (some ⟨rp,0,none⟩),.iface 133 (.agg (XA m i kk m.nk m.nk))] w fun e w'=>e= .returned (.tuple #[])/\RdPost w0 rp w v us s r w' ((seqE (wE (pdOf pm) l) m.kd 0 m.nk (rflat (s::r))).1,rflat (s::r)++declE i m.nm l true m.nn):=by
 unfold XA
 have HH:Hid _:=h
 have HHV:Hid _:=hv
 have HOK:Hid _:=ok
 have HLV:Hid _:=lv
 have HHL:Hid _:=hl
 have HHF:Hid _:=hf
 have HHZ:Hid _:=hz
 have HLEN:Hid _:=len
 have HHS:Hid _:=hs
 have HHM:Hid _:=hm
 have HSAME:Hid _:=same
 clear h hv ok lv hl hf hz len hs hm same
 have a_block:=as_block_no (t:=133) Zb
 have a_let:=as_let_no (t:=133) Zb
 have a_const:=as_const_yes
 have O0:Hid _:=Onw.alloc w (Obj.cells (XA m i kk m.nk m.nk) 133)
 have N1:=Blk.new w 133 (XA m i kk m.nk m.nk)
 go_enter Tryz.func44,Tryz.ntmps44
 go_wp2_with fail
 obtain ⟨G,hG⟩:∃G,w.heap.size=G:=⟨_,rfl⟩
 rw[hG] at N1 ⊢
 have HG:Hid _:=hG
 clear hG
 have HH1:Hid _:=HH.out.onw O0.out
 generalize w.alloc (Obj.cells (XA m i kk m.nk m.nk) 133)=w1 at*
 refine (readAll_any (mb:=mb) m.kd m.nk kk m.nk hn HHV.out HOK.out HH1.out HLV.out HHL.out HHM.out HHF.out HHZ.out HLEN.out).mono ?_
 rintro e w2 ⟨rfl,v1,es1,R1,E1,F1,L1⟩
 have e1:es1=s.es:=by
  exact J179
 subst e1
 have HR1:Hid (RdAt w0 w2 rp v1 _ (s::r)):=R1
 have HF1:Hid _:=F1
 have N2:=N1.kept F1.kept (HH1.out.free HH1.out.map N1 Zb Zb)
 clear R1 E1 F1 L1 N1
 have g0:=Blk.at_ N2 0 rfl
 have g1:=Blk.at_ N2 1 rfl
 have g2:=Blk.at_ N2 2 rfl
 have g3:=Blk.at_ N2 3 rfl
 have g4:=Blk.at_ N2 4 rfl
 have g5:=Blk.at_ N2 5 rfl
 have g6:=Blk.at_ N2 6 rfl
 have g7:=Blk.at_ N2 7 rfl
 have g8:=Blk.at_ N2 8 rfl
 have g9:=Blk.at_ N2 9 rfl
 have g10:=Blk.at_ N2 10 rfl
 have g11:=Blk.at_ N2 11 rfl
 have zg:=clt g0
 go_wp2_with fail
 refine (declare_any (mb:=mb) m i _ _ _ 3 true rfl HR1.out HHM.out HHS.out hnn).mono ?_
 rintro e w3 ⟨rfl,R3,F3⟩
 have HP3:Hid (RdPost w0 rp w v us s r w3 ((seqE (wE (pdOf pm) l) m.kd 0 m.nk (rflat (s::r))).1,rflat (s::r)++declE i m.nm l true m.nn)):=⟨v1,_,R3,by rw[<-HHL.out];exact (List.append_assoc _ _ _).symm,((RFr.onw O0.out rp v s.mb).trans HF1.out).trans F3,fun x hx=>by
  rcases List.mem_append.1 hx with hx|hx
  ·exact HLV.out.own s List.mem_cons_self x hx
  ·exact declE_fn x hx⟩
 exact J217
theorem read_ownFn (m:PM)(i:Nat)(kk:Option Addr)(hn:m.nk<=200)(hnn:m.nn<=200)(hs:StrsAt w0 m.na m.nn m.nm)(hm:s.mb=some mb)(same:(seqE (wE (pdOf pm) l) m.kd 0 m.nk (rflat (s::r)++declE i m.nm l false m.nn)).2=rflat (s::r)++declE i m.nm l false m.nn)(hv:ValsAt w0 kk m.nk (fun j=>pv (some (pxOf pm pk (m.kd j).toNat))))(ok:∀j,j < m.nk->ReadOk w0 rp pm pk sz (m.kd j).toNat)(h:RdAt w0 w rp v us (s::r))(lv:LvOk l (s::r))(hl:s.lv=l)(hf:∀j,j < m.nk->∀c∈s::r,((m.kd j).toNat:Int) < c.fn)(hz:us.length+psum sz m.kd m.nk<=1048576)(len:∀j,j < m.nk->∀sc,(wE (pdOf pm) l (m.kd j).toNat sc).1.length<=sz (m.kd j).toNat):
  Calls Tryz.prog 44 #[.pointer (some ⟨rp,0,none⟩),.iface 134 (.agg (XA m i kk m.nk m.nk))] w fun e w'=>e= .returned (.tuple #[])/\RdPost w0 rp w v us s r w' ((seqE (wE (pdOf pm) l) m.kd 0 m.nk (rflat (s::r)++declE i m.nm l false m.nn)).1,rflat (s::r)++declE i m.nm l false m.nn):=by
 unfold XA
 have HH:Hid _:=h
 have HHV:Hid _:=hv
 have HOK:Hid _:=ok
 have HLV:Hid _:=lv
 have HHL:Hid _:=hl
 have HHF:Hid _:=hf
 have HHZ:Hid _:=hz
 have HLEN:Hid _:=len
 have HHS:Hid _:=hs
 have HHM:Hid _:=hm
 have HSAME:Hid _:=same
 clear h hv ok lv hl hf hz len hs hm same
 have a_block:=as_block_no (t:=134) Zb
 have a_let:=as_let_no (t:=134) Zb
 have a_const:=as_const_no (t:=134) Zb
 have a_ownFn:=as_ownFn_yes
 have O0:Hid _:=Onw.alloc w (Obj.cells (XA m i kk m.nk m.nk) 134)
 have N1:=Blk.new w 134 (XA m i kk m.nk m.nk)
 go_enter Tryz.func44,Tryz.ntmps44
 go_wp2_with fail
 obtain ⟨G,hG⟩:∃G,w.heap.size=G:=⟨_,rfl⟩
 rw[hG] at N1 ⊢
 have HG:Hid _:=hG
 clear hG
 have HH1:Hid _:=HH.out.onw O0.out
 generalize w.alloc (Obj.cells (XA m i kk m.nk m.nk) 134)=w1 at*
 have g0:=Blk.at_ N1 0 rfl
 have g1:=Blk.at_ N1 1 rfl
 have g2:=Blk.at_ N1 2 rfl
 have g3:=Blk.at_ N1 3 rfl
 have g4:=Blk.at_ N1 4 rfl
 have g5:=Blk.at_ N1 5 rfl
 have g6:=Blk.at_ N1 6 rfl
 have g7:=Blk.at_ N1 7 rfl
 have g8:=Blk.at_ N1 8 rfl
 have g9:=Blk.at_ N1 9 rfl
 have g10:=Blk.at_ N1 10 rfl
 have g11:=Blk.at_ N1 11 rfl
 have zg:=clt g0
 go_wp2_with fail
 refine (declare_any (mb:=mb) m i _ _ _ 1 false rfl HH1.out HHM.out HHS.out hnn).mono ?_
 rintro e w2 ⟨rfl,R2,F2⟩
 have OWN:∀x∈s.es++declE i m.nm s.lv false m.nn,x.fn=(s.lv:Int):=fun x hx=>by
  rcases List.mem_append.1 hx with hx|hx
  ·exact HLV.out.own s List.mem_cons_self x hx
  ·exact declE_fn x hx
 have HOWN:Hid _:=OWN
 have HR2:Hid _:=R2
 have HF2:Hid _:=F2
 have N2:=N1.kept F2.kept (HH1.out.free HH1.out.map N1 Zb Zb)
 clear R2 F2 N1 OWN g0 g1 g2 g3 g4 g5 g6 g7 g8 g9 g10 g11 zg
 have g11:=Blk.at_ N2 11 rfl
 have zg:=clt g11
 go_wp2_with fail
 refine (readAll_any (mb:=mb) (s:={s with es:=s.es++declE i m.nm s.lv false m.nn}) m.kd m.nk kk m.nk hn HHV.out HOK.out HR2.out (HLV.out.put HOWN.out) HHL.out HHM.out (fun j hj c hc=>?_) HHZ.out HLEN.out).mono ?_
 ·rcases List.mem_cons.1 hc with rfl|hc
  ·exact HHF.out j hj s List.mem_cons_self
  ·exact HHF.out j hj c (List.mem_cons_of_mem _ hc)
 rintro e w3 ⟨rfl,v3,es3,R3,E3,F3,L3⟩
 have HP3:Hid (RdPost w0 rp w v us s r w3 ((seqE (wE (pdOf pm) l) m.kd 0 m.nk (rflat (s::r)++declE i m.nm l false m.nn)).1,rflat (s::r)++declE i m.nm l false m.nn)):=by
  have e0:rflat ({s with es:=s.es++declE i m.nm s.lv false m.nn}::r)=rflat (s::r)++declE i m.nm l false m.nn:=by
   rw[<-HHL.out];exact (List.append_assoc _ _ _).symm
  rw[e0] at R3 E3
  rw[HSAME.out] at E3
  exact ⟨v3,es3,R3,E3,((RFr.onw O0.out rp v s.mb).trans HF2.out).trans F3,L3⟩
 clear R3 E3 F3 L3
 exact J143
theorem read_fn (m:PM)(i:Nat)(kk:Option Addr)(n:Nat)(hn:n+1<=200)(hnn:m.nn<=200)(hs:StrsAt w0 m.na m.nn m.nm)(hm:s.mb=some mb)(same:(seqE (wE (pdOf pm) l) m.kd 0 n (rflat (s::r))).2=rflat (s::r))(hv:ValsAt w0 kk (n+1) (fun j=>pv (some (pxOf pm pk (m.kd j).toNat))))(ok:∀j,j < (n+1)->ReadOk w0 rp pm pk sz (m.kd j).toNat)(h:RdAt w0 w rp v us (s::r))(lv:LvOk l (s::r))(hl:s.lv=l)(hf:∀j,j < (n+1)->∀c∈s::r,((m.kd j).toNat:Int) < c.fn)(hz:us.length+psum sz m.kd (n+1)<=1048576)(len:∀j,j < (n+1)->∀sc,(wE (pdOf pm) l (m.kd j).toNat sc).1.length<=sz (m.kd j).toNat)(hF:((m.kd n).toNat:Int) < i)(hI:∀c∈s::r,(i:Int) < c.fn):
  Calls Tryz.prog 44 #[.pointer (some ⟨rp,0,none⟩),.iface 140 (.agg (XA m i kk (n+1) (n+1)))] w fun e w'=>e= .returned (.tuple #[])/\RdPost w0 rp w v us s r w' ((seqE (wE (pdOf pm) l) m.kd 0 n (rflat (s::r))).1++(wE (pdOf pm) (l+1) (m.kd n).toNat (rflat (s::r)++declE i m.nm (l+1) false m.nn)).1,rflat (s::r)):=by
 unfold XA
 have HH:Hid _:=h
 have HHV:Hid _:=hv
 have HOK:Hid _:=ok
 have HLV:Hid _:=lv
 have HHL:Hid _:=hl
 have HHF:Hid _:=hf
 have HHZ:Hid _:=hz
 have HLEN:Hid _:=len
 have HHS:Hid _:=hs
 have HHM:Hid _:=hm
 have HSAME:Hid _:=same
 have HHF_:Hid _:=hF
 have HHI:Hid _:=hI
 clear h hv ok lv hl hf hz len hs hm same hF hI
 have a_block:=as_block_no (t:=140) Zb
 have a_let:=as_let_no (t:=140) Zb
 have a_const:=as_const_no (t:=140) Zb
 have a_ownFn:=as_ownFn_no (t:=140) Zb
 have a_for:=as_for_no (t:=140) Zb
 have a_each:=as_each_no (t:=140) Zb
 have a_try:=as_try_no (t:=140) Zb
 have a_fn:=as_fn_yes
 have O0:Hid _:=Onw.alloc w (Obj.cells (XA m i kk (n+1) (n+1)) 140)
 have N1:=Blk.new w 140 (XA m i kk (n+1) (n+1))
 go_enter Tryz.func44,Tryz.ntmps44
 go_wp2_with fail
 obtain ⟨G,hG⟩:∃G,w.heap.size=G:=⟨_,rfl⟩
 rw[hG] at N1 ⊢
 have HG:Hid _:=hG
 clear hG
 have HH1:Hid _:=HH.out.onw O0.out
 generalize w.alloc (Obj.cells (XA m i kk (n+1) (n+1)) 140)=w1 at*
 have g0:=Blk.at_ N1 0 rfl
 have g1:=Blk.at_ N1 1 rfl
 have g2:=Blk.at_ N1 2 rfl
 have g3:=Blk.at_ N1 3 rfl
 have g4:=Blk.at_ N1 4 rfl
 have g5:=Blk.at_ N1 5 rfl
 have g6:=Blk.at_ N1 6 rfl
 have g7:=Blk.at_ N1 7 rfl
 have g8:=Blk.at_ N1 8 rfl
 have g9:=Blk.at_ N1 9 rfl
 have g10:=Blk.at_ N1 10 rfl
 have g11:=Blk.at_ N1 11 rfl
 have zg:=clt g0
 go_wp2_with fail
 refine (readLast_any (mb:=mb) m i kk n i (l+1) hn hnn HHV.out HHS.out HOK.out HH1.out HLV.out HHL.out HHM.out (fun t h1 h2 h3=>HLV.out.pushFn (fun c hc=>by have:=HHI.out c hc;omega) h2 h3) HHF.out HHF_.out HHZ.out HLEN.out HSAME.out).mono ?_
 rintro e w2 ⟨rfl,P2⟩
 have HP2:Hid _:=P2.onw O0.out
 clear P2 g0 g1 g2 g3 g4 g5 g6 g7 g8 g9 g10 g11 zg
 exact J142
theorem read_plain (m:PM)(i:Nat)(kk:Option Addr)(T:TypeId)(d:PD)(hT:ptT d=T)(n0:T≠129)(n1:T≠131)(n2:T≠133)(n3:T≠134)(n4:T≠135)(n5:T≠136)(n6:T≠137)(n7:T≠140)(n8:T≠141)(hn:m.nk<=200)(hm:s.mb=some mb)(hv:ValsAt w0 kk m.nk (fun j=>pv (some (pxOf pm pk (m.kd j).toNat))))(ok:∀j,j < m.nk->ReadOk w0 rp pm pk sz (m.kd j).toNat)(h:RdAt w0 w rp v us (s::r))(lv:LvOk l (s::r))(hl:s.lv=l)(hf:∀j,j < m.nk->∀c∈s::r,((m.kd j).toNat:Int) < c.fn)(hz:us.length+psum sz m.kd m.nk<=1048576)(len:∀j,j < m.nk->∀sc,(wE (pdOf pm) l (m.kd j).toNat sc).1.length<=sz (m.kd j).toNat):
  Calls Tryz.prog 44 #[.pointer (some ⟨rp,0,none⟩),.iface T (.agg (XA m i kk m.nk m.nk))] w fun e w'=>e= .returned (.tuple #[])/\RdPost w0 rp w v us s r w' (seqE (wE (pdOf pm) l) m.kd 0 m.nk (rflat (s::r))):=by
 unfold XA
 have HH:Hid _:=h
 have HHV:Hid _:=hv
 have HOK:Hid _:=ok
 have HLV:Hid _:=lv
 have HHL:Hid _:=hl
 have HHF:Hid _:=hf
 have HHZ:Hid _:=hz
 have HLEN:Hid _:=len
 have HHM:Hid _:=hm
 clear h hv ok lv hl hf hz len hm
 have a_block:=as_block_no n0
 have a_let:=as_let_no n1
 have a_const:=as_const_no n2
 have a_ownFn:=as_ownFn_no n3
 have a_for:=as_for_no n4
 have a_each:=as_each_no n5
 have a_try:=as_try_no n6
 have a_fn:=as_fn_no n7
 have a_name:=as_name_no n8
 have mt:=meth_top d
 unfold MethOk at mt
 rw[hT] at mt
 have fk:=field_kids
 clear hT
 go_enter Tryz.func44,Tryz.ntmps44
 go_wp2_with fail
 refine (top_any m i kk m.nk m.nk _).mono ?_
 rintro e w1 ⟨rfl,O1⟩
 go_wp2_with fail
 refine (readAll_any (mb:=mb) m.kd m.nk kk m.nk hn HHV.out HOK.out (HH.out.onw O1) HLV.out HHL.out HHM.out HHF.out HHZ.out HLEN.out).mono ?_
 rintro e w2 ⟨rfl,P2⟩
 have HP2:Hid _:=P2.onw O1
 clear P2
 exact J142
end Go.Proofs.YtlibofjbhhdjdaaGreat
