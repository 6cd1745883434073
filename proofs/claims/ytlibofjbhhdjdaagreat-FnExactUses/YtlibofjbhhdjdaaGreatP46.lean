import Derived.Test.YtlibofjbhhdjdaaGreatQ
import Derived.Test.YtlibofjbhhdjdaaGreatP43
import Derived.Test.YtlibofjbhhdjdaaGreatP42
set_option linter.unusedSimpArgs false
set_option maxRecDepth 100000
set_option maxHeartbeats 16000000
namespace Go.Proofs.YtlibofjbhhdjdaaGreat
open Go.RowKit
attribute [local go_sem] rsf
variable {us:List (List Value)} {r:List RSc} {l mb rp:Nat} {sz:Nat->Nat} {pk:Nat->Option Addr} {pm:Nat->PM} {s:RSc} {v:Value} {w w0:World}
theorem read_for (m:PM)(i:Nat)(kk:Option Addr)(n:Nat)(hn:n+1<=200)(hnn:m.nn<=200)(hs:StrsAt w0 m.na m.nn m.nm)(hm:s.mb=some mb)(same:(seqE (wE (pdOf pm) l) m.kd 0 n (rflat (s::r))).2=rflat (s::r))(hv:ValsAt w0 kk (n+1) (fun j=>pv (some (pxOf pm pk (m.kd j).toNat))))(ok:∀j,j < (n+1)->ReadOk w0 rp pm pk sz (m.kd j).toNat)(h:RdAt w0 w rp v us (s::r))(lv:LvOk l (s::r))(hl:s.lv=l)(hf:∀j,j < (n+1)->∀c∈s::r,((m.kd j).toNat:Int) < c.fn)(hz:us.length+psum sz m.kd (n+1)<=1048576)(len:∀j,j < (n+1)->∀sc,(wE (pdOf pm) l (m.kd j).toNat sc).1.length<=sz (m.kd j).toNat):
  Calls Tryz.prog 44 #[.pointer (some ⟨rp,0,none⟩),.iface 135 (.agg (XA m i kk (n+1) (n+1)))] w fun e w'=>e= .returned (.tuple #[])/\RdPost w0 rp w v us s r w' ((seqE (wE (pdOf pm) l) m.kd 0 n (rflat (s::r))).1++(wE (pdOf pm) l (m.kd n).toNat (rflat (s::r)++declE i m.nm l false m.nn)).1,rflat (s::r)):=by
 unfold XA
 have b0:w.cell? ⟨rp,0,none⟩=some (.pointer (some ⟨s.sb,0,none⟩)):=Blk.at_ h.blk 0 rfl
 have b1:=Blk.at_ h.sco.1 1 rfl
 have z0:=clt b0
 have z1:=clt b1
 have HH:Hid _:=h
 have HHV:Hid _:=hv
 have HOK:Hid _:=ok
 have HLV:Hid _:=lv
 have HHL:Hid _:=hl
 have HHF:Hid _:=hf
 have HHZ:Hid _:=hz
 have HLEN:Hid _:=len
 have HHS:Hid _:=hs
 have HHM:Hid _:=hm
 have HSAME:Hid _:=same
 clear h hv ok lv hl hf hz len hs hm same
 have a_block:=as_block_no (t:=135) Zb
 have a_let:=as_let_no (t:=135) Zb
 have a_const:=as_const_no (t:=135) Zb
 have a_ownFn:=as_ownFn_no (t:=135) Zb
 have a_for:=as_for_yes
 have a_each:=as_each_no (t:=135) Zb
 have a_try:=as_try_no (t:=135) Zb
 have mt:=meth_top_for
 exact J39
theorem read_each (m:PM)(i:Nat)(kk:Option Addr)(n:Nat)(hn:n+1<=200)(hnn:m.nn<=200)(hs:StrsAt w0 m.na m.nn m.nm)(hm:s.mb=some mb)(same:(seqE (wE (pdOf pm) l) m.kd 0 n (rflat (s::r))).2=rflat (s::r))(hv:ValsAt w0 kk (n+1) (fun j=>pv (some (pxOf pm pk (m.kd j).toNat))))(ok:∀j,j < (n+1)->ReadOk w0 rp pm pk sz (m.kd j).toNat)(h:RdAt w0 w rp v us (s::r))(lv:LvOk l (s::r))(hl:s.lv=l)(hf:∀j,j < (n+1)->∀c∈s::r,((m.kd j).toNat:Int) < c.fn)(hz:us.length+psum sz m.kd (n+1)<=1048576)(len:∀j,j < (n+1)->∀sc,(wE (pdOf pm) l (m.kd j).toNat sc).1.length<=sz (m.kd j).toNat):
  Calls Tryz.prog 44 #[.pointer (some ⟨rp,0,none⟩),.iface 136 (.agg (XA m i kk (n+1) (n+1)))] w fun e w'=>e= .returned (.tuple #[])/\RdPost w0 rp w v us s r w' ((seqE (wE (pdOf pm) l) m.kd 0 n (rflat (s::r))).1++(wE (pdOf pm) l (m.kd n).toNat (rflat (s::r)++declE i m.nm l false m.nn)).1,rflat (s::r)):=by
 unfold XA
 have b0:w.cell? ⟨rp,0,none⟩=some (.pointer (some ⟨s.sb,0,none⟩)):=Blk.at_ h.blk 0 rfl
 have b1:=Blk.at_ h.sco.1 1 rfl
 have z0:=clt b0
 have z1:=clt b1
 have HH:Hid _:=h
 have HHV:Hid _:=hv
 have HOK:Hid _:=ok
 have HLV:Hid _:=lv
 have HHL:Hid _:=hl
 have HHF:Hid _:=hf
 have HHZ:Hid _:=hz
 have HLEN:Hid _:=len
 have HHS:Hid _:=hs
 have HHM:Hid _:=hm
 have HSAME:Hid _:=same
 clear h hv ok lv hl hf hz len hs hm same
 have a_block:=as_block_no (t:=136) Zb
 have a_let:=as_let_no (t:=136) Zb
 have a_const:=as_const_no (t:=136) Zb
 have a_ownFn:=as_ownFn_no (t:=136) Zb
 have a_for:=as_for_no (t:=136) Zb
 have a_each:=as_each_yes
 have a_try:=as_try_no (t:=136) Zb
 have mt:=meth_top_each
 exact J39
theorem read_try (m:PM)(i:Nat)(kk:Option Addr)(n:Nat)(hn:n+1<=200)(hnn:m.nn<=200)(hs:StrsAt w0 m.na m.nn m.nm)(hm:s.mb=some mb)(same:(seqE (wE (pdOf pm) l) m.kd 0 n (rflat (s::r))).2=rflat (s::r))(hv:ValsAt w0 kk (n+1) (fun j=>pv (some (pxOf pm pk (m.kd j).toNat))))(ok:∀j,j < (n+1)->ReadOk w0 rp pm pk sz (m.kd j).toNat)(h:RdAt w0 w rp v us (s::r))(lv:LvOk l (s::r))(hl:s.lv=l)(hf:∀j,j < (n+1)->∀c∈s::r,((m.kd j).toNat:Int) < c.fn)(hz:us.length+psum sz m.kd (n+1)<=1048576)(len:∀j,j < (n+1)->∀sc,(wE (pdOf pm) l (m.kd j).toNat sc).1.length<=sz (m.kd j).toNat):
  Calls Tryz.prog 44 #[.pointer (some ⟨rp,0,none⟩),.iface 137 (.agg (XA m i kk (n+1) (n+1)))] w fun e w'=>e= .returned (.tuple #[])/\RdPost w0 rp w v us s r w' ((seqE (wE (pdOf pm) l) m.kd 0 n (rflat (s::r))).1++(wE (pdOf pm) l (m.kd n).toNat (rflat (s::r)++declE i m.nm l false m.nn)).1,rflat (s::r)):=by
 unfold XA
 have b0:w.cell? ⟨rp,0,none⟩=some (.pointer (some ⟨s.sb,0,none⟩)):=Blk.at_ h.blk 0 rfl
 have b1:=Blk.at_ h.sco.1 1 rfl
 have z0:=clt b0
 have z1:=clt b1
 have HH:Hid _:=h
 have HHV:Hid _:=hv
 have HOK:Hid _:=ok
 have HLV:Hid _:=lv
 have HHL:Hid _:=hl
 have HHF:Hid _:=hf
 have HHZ:Hid _:=hz
 have HLEN:Hid _:=len
 have HHS:Hid _:=hs
 have HHM:Hid _:=hm
 have HSAME:Hid _:=same
 clear h hv ok lv hl hf hz len hs hm same
 have a_block:=as_block_no (t:=137) Zb
 have a_let:=as_let_no (t:=137) Zb
 have a_const:=as_const_no (t:=137) Zb
 have a_ownFn:=as_ownFn_no (t:=137) Zb
 have a_for:=as_for_no (t:=137) Zb
 have a_each:=as_each_no (t:=137) Zb
 have a_try:=as_try_yes
 have mt:=meth_top_try
 exact J39
end Go.Proofs.YtlibofjbhhdjdaaGreat
