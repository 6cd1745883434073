import Derived.Test.YtlibofjbhhdjdaaGreatQ
import Derived.Test.YtlibofjbhhdjdaaGreatP38
set_option linter.unusedSimpArgs false
set_option maxRecDepth 100000
set_option maxHeartbeats 16000000
namespace Go.Proofs.YtlibofjbhhdjdaaGreat
open Go.RowKit
attribute [local go_sem] rsf
variable (m : PM) (p : Int) (kk : Option Addr) (kn kc : Nat) (q : Nat -> Option PX) (w : World)
theorem ef_bare (H:FitsAt m kk kn kc q w):
  Calls Tryz.prog 75 #[.iface 181 (.agg (XA m p kk kn kc))] w fun e w'=>e= .returned (.bool (usesP m.toPD false false false false false&&(kidsR [] kn q)))/\Onw w w':=by
 unfold XA
 obtain ⟨hn,hk,hkc,hnn,hz,htx,hm⟩:=H
 have ⟨O,B⟩:=st1 w 181 (XA m p kk kn kc)
 unfold XA at O B
 have bc:=B.cell
 have a_bare:=as_bare_yes
 go_enter Tryz.func75,Tryz.ntmps75
 exact J56
theorem ef_rest (H:FitsAt m kk kn kc q w):
  Calls Tryz.prog 75 #[.iface 182 (.agg (XA m p kk kn kc))] w fun e w'=>e= .returned (.bool (usesP m.toPD false false false false false&&(kidsR [] kn q)))/\Onw w w':=by
 unfold XA
 obtain ⟨hn,hk,hkc,hnn,hz,htx,hm⟩:=H
 have ⟨O,B⟩:=st1 w 182 (XA m p kk kn kc)
 unfold XA at O B
 have bc:=B.cell
 have a_bare:=as_bare_no (t:=182) Zb
 have a_rest:=as_rest_yes
 go_enter Tryz.func75,Tryz.ntmps75
 exact J56
theorem ef_int (H:FitsAt m kk kn kc q w):
  Calls Tryz.prog 75 #[.iface 183 (.agg (XA m p kk kn kc))] w fun e w'=>e= .returned (.bool (usesP m.toPD false true false false false&&(kidsR [] kn q)))/\Onw w w':=by
 unfold XA
 obtain ⟨hn,hk,hkc,hnn,hz,htx,hm⟩:=H
 have ⟨O,B⟩:=st1 w 183 (XA m p kk kn kc)
 unfold XA at O B
 have bc:=B.cell
 have a_bare:=as_bare_no (t:=183) Zb
 have a_rest:=as_rest_no (t:=183) Zb
 have a_int:=as_int_yes
 go_enter Tryz.func75,Tryz.ntmps75
 go_wp2_with fail
 refine (usesOnly_any m p kk kn kc 2 _ false true false false false J269).mono ?_
 rintro e w1 ⟨rfl,hb⟩
 replace B:=B.onw hb
 replace O:=O.trans hb
 clear hb bc
 have bc:=B.cell
 cases h0:usesP m.toPD false true false false false
 ·exact J4
 ·exact J136
theorem ef_either (H:FitsAt m kk kn kc q w):
  Calls Tryz.prog 75 #[.iface 187 (.agg (XA m p kk kn kc))] w fun e w'=>e= .returned (.bool (usesP m.toPD false false false false false&&(kidsR [8,8] kn q)))/\Onw w w':=by
 unfold XA
 obtain ⟨hn,hk,hkc,hnn,hz,htx,hm⟩:=H
 have ⟨O,B⟩:=st1 w 187 (XA m p kk kn kc)
 unfold XA at O B
 have bc:=B.cell
 have a_bare:=as_bare_no (t:=187) Zb
 have a_rest:=as_rest_no (t:=187) Zb
 have a_int:=as_int_no (t:=187) Zb
 have a_flt:=as_flt_no (t:=187) Zb
 have a_str:=as_str_no (t:=187) Zb
 have a_name:=as_name_no (t:=187) Zb
 have a_either:=as_either_yes
 go_enter Tryz.func75,Tryz.ntmps75
 exact J80
theorem ef_index (H:FitsAt m kk kn kc q w):
  Calls Tryz.prog 75 #[.iface 190 (.agg (XA m p kk kn kc))] w fun e w'=>e= .returned (.bool (usesP m.toPD false false false false false&&(kidsR [16,8] kn q)))/\Onw w w':=by
 unfold XA
 obtain ⟨hn,hk,hkc,hnn,hz,htx,hm⟩:=H
 have ⟨O,B⟩:=st1 w 190 (XA m p kk kn kc)
 unfold XA at O B
 have bc:=B.cell
 have a_bare:=as_bare_no (t:=190) Zb
 have a_rest:=as_rest_no (t:=190) Zb
 have a_int:=as_int_no (t:=190) Zb
 have a_flt:=as_flt_no (t:=190) Zb
 have a_str:=as_str_no (t:=190) Zb
 have a_name:=as_name_no (t:=190) Zb
 have a_either:=as_either_no (t:=190) Zb
 have a_unary:=as_unary_no (t:=190) Zb
 have a_binary:=as_binary_no (t:=190) Zb
 have a_index:=as_index_yes
 go_enter Tryz.func75,Tryz.ntmps75
 go_wp2_with fail
 refine (usesOnly_any m p kk kn kc 0 _ false false false false false J269).mono ?_
 rintro e w1 ⟨rfl,hb⟩
 replace B:=B.onw hb
 replace O:=O.trans hb
 clear hb bc
 have bc:=B.cell
 cases h0:usesP m.toPD false false false false false
 ·exact J4
 ·go_wp2_with fail
  refine (kidsAre_any m p kk kn kc q _ 2 _ (classF [16,8]) _ hn (hk.onw (O.trans (Onw.alloc _ _))) (by exact lay2 _ _ 16 8)).mono ?_
  exact J53
theorem ef_table (H:FitsAt m kk kn kc q w):
  Calls Tryz.prog 75 #[.iface 193 (.agg (XA m p kk kn kc))] w fun e w'=>e= .returned (.bool (usesP m.toPD false false false false false&&(standR 512 kn q)))/\Onw w w':=by
 unfold XA
 obtain ⟨hn,hk,hkc,hnn,hz,htx,hm⟩:=H
 have ⟨O,B⟩:=st1 w 193 (XA m p kk kn kc)
 unfold XA at O B
 have bc:=B.cell
 have a_bare:=as_bare_no (t:=193) Zb
 have a_rest:=as_rest_no (t:=193) Zb
 have a_int:=as_int_no (t:=193) Zb
 have a_flt:=as_flt_no (t:=193) Zb
 have a_str:=as_str_no (t:=193) Zb
 have a_name:=as_name_no (t:=193) Zb
 have a_either:=as_either_no (t:=193) Zb
 have a_unary:=as_unary_no (t:=193) Zb
 have a_binary:=as_binary_no (t:=193) Zb
 have a_index:=as_index_no (t:=193) Zb
 have a_field:=as_field_no (t:=193) Zb
 have a_call:=as_call_no (t:=193) Zb
 have a_table:=as_table_yes
 go_enter Tryz.func75,Tryz.ntmps75
 go_wp2_with fail
 refine (usesOnly_any m p kk kn kc 0 _ false false false false false J269).mono ?_
 rintro e w1 ⟨rfl,hb⟩
 replace B:=B.onw hb
 replace O:=O.trans hb
 clear hb bc
 have bc:=B.cell
 cases h0:usesP m.toPD false false false false false
 ·exact J4
 ·go_wp2_with fail
  refine (standAs_any _ _ _ q 512 _ hn (hk.onw O)).mono ?_
  rintro e w2 ⟨rfl,hb⟩
  exact J30
theorem ef_one (H:FitsAt m kk kn kc q w):
  Calls Tryz.prog 75 #[.iface 195 (.agg (XA m p kk kn kc))] w fun e w'=>e= .returned (.bool (usesP m.toPD false false false false false&&(kidsR [64] kn q)))/\Onw w w':=by
 unfold XA
 obtain ⟨hn,hk,hkc,hnn,hz,htx,hm⟩:=H
 have ⟨O,B⟩:=st1 w 195 (XA m p kk kn kc)
 unfold XA at O B
 have bc:=B.cell
 have a_bare:=as_bare_no (t:=195) Zb
 have a_rest:=as_rest_no (t:=195) Zb
 have a_int:=as_int_no (t:=195) Zb
 have a_flt:=as_flt_no (t:=195) Zb
 have a_str:=as_str_no (t:=195) Zb
 have a_name:=as_name_no (t:=195) Zb
 have a_either:=as_either_no (t:=195) Zb
 have a_unary:=as_unary_no (t:=195) Zb
 have a_binary:=as_binary_no (t:=195) Zb
 have a_index:=as_index_no (t:=195) Zb
 have a_field:=as_field_no (t:=195) Zb
 have a_call:=as_call_no (t:=195) Zb
 have a_table:=as_table_no (t:=195) Zb
 have a_fn:=as_fn_no (t:=195) Zb
 have a_one:=as_one_yes
 go_enter Tryz.func75,Tryz.ntmps75
 go_wp2_with fail
 refine (usesOnly_any m p kk kn kc 0 _ false false false false false J269).mono ?_
 rintro e w1 ⟨rfl,hb⟩
 replace B:=B.onw hb
 replace O:=O.trans hb
 clear hb bc
 have bc:=B.cell
 cases h0:usesP m.toPD false false false false false
 ·exact J4
 ·go_wp2_with fail
  refine (kidsAre_any m p kk kn kc q _ 1 _ (classF [64]) _ hn (hk.onw (O.trans (Onw.alloc _ _))) (by exact lay1 _ _ 64)).mono ?_
  exact J53
theorem ef_call (H:FitsAt m kk kn kc q w):
  Calls Tryz.prog 75 #[.iface 192 (.agg (XA m p kk kn kc))] w fun e w'=>e= .returned (.bool (usesP m.toPD false false false false false&&((decide ((1:Int)<=kn)&&(standR 16 1 q&&standR 8 (kn-1) (fun i=>q (1+i)))))))/\Onw w w':=by
 unfold XA
 obtain ⟨hn,hk,hkc,hnn,hz,htx,hm⟩:=H
 have ⟨O,B⟩:=st1 w 192 (XA m p kk kn kc)
 unfold XA at O B
 have bc:=B.cell
 have a_bare:=as_bare_no (t:=192) Zb
 have a_rest:=as_rest_no (t:=192) Zb
 have a_int:=as_int_no (t:=192) Zb
 have a_flt:=as_flt_no (t:=192) Zb
 have a_str:=as_str_no (t:=192) Zb
 have a_name:=as_name_no (t:=192) Zb
 have a_either:=as_either_no (t:=192) Zb
 have a_unary:=as_unary_no (t:=192) Zb
 have a_binary:=as_binary_no (t:=192) Zb
 have a_index:=as_index_no (t:=192) Zb
 have a_field:=as_field_no (t:=192) Zb
 have a_call:=as_call_yes
 go_enter Tryz.func75,Tryz.ntmps75
 go_wp2_with fail
 refine (usesOnly_any m p kk kn kc 0 _ false false false false false J269).mono ?_
 rintro e w1 ⟨rfl,hb⟩
 replace B:=B.onw hb
 replace O:=O.trans hb
 clear hb bc
 have bc:=B.cell
 cases h0:usesP m.toPD false false false false false
 ·exact J4
 ·by_cases c1:(1:Int)<=kn
  ·have d1:decide ((1:Int)<=kn)=true:=decide_eq_true c1
   have C1:Hid (1<=kn):=by show _<=_;omega
   obtain ⟨b,off,rfl,_⟩:=hk Zo
   have i1:(1:Int)<=(kc:Int):=Zo
   have hk1:=hk.onw O
   go_wp2_with fail
   refine (standAs_any _ 1 _ q 16 _ Zo (by exact vals_to hk1 (by omega))).mono ?_
   rintro e v1 ⟨rfl,hb⟩
   replace B:=B.onw hb
   replace O:=O.trans hb
   replace hk1:=hk1.onw hb
   clear hb bc
   have bc:=B.cell
   have hE:Hid (allB (fun i=>hasR (roleO (q i)) 16) 0 1=standR 16 1 q):=rfl
   rw[hE.out]
   clear hE
   cases h2:standR 16 1 q
   ·go_wp2_with fail
    go_ret
    exact ⟨rtb (by rw[h0,d1,h2];rfl),O⟩
   ·go_wp2_with fail
    all_goals
     refine (standAs_any _ (kn-1) _ (fun i=>q (1+i)) 8 _ Zo (by first|exact vals_from hk1 C1.out|exact fun h=>absurd h (by omega))).mono ?_
     rintro e v2 ⟨rfl,hb⟩
     replace O:=O.trans hb
     go_wp2_with fail
     go_ret
     exact ⟨rtb (by rw[h0,d1,h2];rfl),O⟩
  ·have d1:decide ((1:Int)<=kn)=false:=decide_eq_false c1
   go_wp2_with fail
   go_ret
   exact ⟨rtb (by rw[h0,d1];rfl),O⟩
theorem ef_fn (H:FitsAt m kk kn kc q w):
  Calls Tryz.prog 75 #[.iface 140 (.agg (XA m p kk kn kc))] w fun e w'=>e= .returned (.bool (usesP m.toPD true false false false true&&((m.op==0||m.op==1)&&(allB (fun i=>nameB (m.nm i)) 0 m.nn&&(kidsR [2] kn q)))))/\Onw w w':=by
 unfold XA
 obtain ⟨hn,hk,hkc,hnn,hz,htx,hm⟩:=H
 have ⟨O,B⟩:=st1 w 140 (XA m p kk kn kc)
 unfold XA at O B
 have bc:=B.cell
 have a_bare:=as_bare_no (t:=140) Zb
 have a_rest:=as_rest_no (t:=140) Zb
 have a_int:=as_int_no (t:=140) Zb
 have a_flt:=as_flt_no (t:=140) Zb
 have a_str:=as_str_no (t:=140) Zb
 have a_name:=as_name_no (t:=140) Zb
 have a_either:=as_either_no (t:=140) Zb
 have a_unary:=as_unary_no (t:=140) Zb
 have a_binary:=as_binary_no (t:=140) Zb
 have a_index:=as_index_no (t:=140) Zb
 have a_field:=as_field_no (t:=140) Zb
 have a_call:=as_call_no (t:=140) Zb
 have a_table:=as_table_no (t:=140) Zb
 have a_fn:=as_fn_yes
 go_enter Tryz.func75,Tryz.ntmps75
 go_wp2_with fail
 refine (usesOnly_any m p kk kn kc 17 _ true false false false true J269).mono ?_
 rintro e w1 ⟨rfl,hb⟩
 replace B:=B.onw hb
 replace O:=O.trans hb
 clear hb bc
 have bc:=B.cell
 cases h0:usesP m.toPD true false false false true
 ·exact J4
 ·have o0:(m.op==0)=true/\(m.op==1)=false\/(m.op==0)=false/\(m.op==1)=true\/(m.op==0)=false/\(m.op==1)=false:=Zj
  rcases o0 with ⟨o0,o1⟩|⟨o0,o1⟩|⟨o0,o1⟩
  ·exact J72
  ·exact J72
  ·have h1:(m.op==0||m.op==1)=false:=by rw[o0,o1];rfl
   exact J4
end Go.Proofs.YtlibofjbhhdjdaaGreat
namespace Go.Proofs.YtlibofjbhhdjdaaGreat
open Go.RowKit
attribute [local go_sem] rsf
theorem targetsFit_any (m:PM)(p:Int)(kk:Option Addr)(kn kc:Nat)(q:Nat->Option PX)(w:World)(hn:kn<=1048576)(hkc:kn<=kc)(hk:ValsAt w kk kn (fun j=>pv (q j))):
  Calls Tryz.prog 96 #[.agg (XA m p kk kn kc)] w fun e w'=>e= .returned (.bool (targetsR m.toPD kn q))/\Onw w w':=by
 unfold XA
 have fin:Hid (targetsR m.toPD kn q=(decide (1<=m.num)&&(decide (m.num < kn)&&(standR 128 m.num.toNat q&&standR 8 (kn-m.num.toNat) (fun i=>q (m.num.toNat+i)))))):=rfl
 by_cases h1:m.num < 1
 ·have D:Hid (decide (1<=m.num)=false):=decide_eq_false Zo
  go_enter Tryz.func96,Tryz.ntmps96
  go_wp2_with fail
  go_ret
  exact ⟨rtb (by rw[fin.out,D.out];rfl),Onw.alloc _ _⟩
 ·have D:Hid (decide (1<=m.num)=true):=decide_eq_true Zo
  by_cases h2:(kn:Int)<=m.num
  ·have D2:Hid (decide (m.num < (kn:Int))=false):=decide_eq_false Zo
   go_enter Tryz.func96,Tryz.ntmps96
   go_wp2_with fail
   go_ret
   exact ⟨rtb (by rw[fin.out,D.out,D2.out];rfl),Onw.alloc _ _⟩
  ·have D2:Hid (decide (m.num < (kn:Int))=true):=decide_eq_true Zo
   obtain ⟨b,off,rfl,_⟩:=hk Zo
   have i1:m.num<=(kc:Int):=Zo
   have i2:m.num<=(kn:Int):=Zo
   have i0:0<=m.num:=Zo
   have B:=Blk.new w 173 #[.int .i64 p,.int .i64 m.kind,.int .i64 m.frm,.int .i64 m.tto,.int .i64 m.line,.int .i64 m.op,.int .i64 m.num,.float .f64 m.flt,.string m.text,.slice m.na m.nn m.nc,.slice m.ka m.nk m.kc,.slice (some ⟨b,off,none⟩) kn kc]
   have O:=Onw.alloc w (Obj.cells #[.int .i64 p,.int .i64 m.kind,.int .i64 m.frm,.int .i64 m.tto,.int .i64 m.line,.int .i64 m.op,.int .i64 m.num,.float .f64 m.flt,.string m.text,.slice m.na m.nn m.nc,.slice m.ka m.nk m.kc,.slice (some ⟨b,off,none⟩) kn kc] 173)
   have hk1:=hk.onw O
   go_enter Tryz.func96,Tryz.ntmps96
   go_wp2_with fail
   refine (standAs_any _ m.num.toNat _ q 128 _ Zo (by exact vals_to hk1 (by omega))).mono ?_
   rintro e w1 ⟨rfl,hb⟩
   replace B:=B.onw hb
   replace O:=O.trans hb
   replace hk1:=hk1.onw hb
   clear hb
   have bc:=B.cell
   have hE:Hid (allB (fun i=>hasR (roleO (q i)) 128) 0 m.num.toNat=standR 128 m.num.toNat q):=rfl
   rw[hE.out]
   clear hE
   cases hy:standR 128 m.num.toNat q
   ·exact J170
   ·go_wp2_with fail
    refine (standAs_any _ (kn-m.num.toNat) _ (fun i=>q (m.num.toNat+i)) 8 _ Zo (by exact vals_from hk1 (by omega))).mono ?_
    rintro e w2 ⟨rfl,hb⟩
    replace O:=O.trans hb
    exact J170
end Go.Proofs.YtlibofjbhhdjdaaGreat
namespace Go.Proofs.YtlibofjbhhdjdaaGreat
open Go.RowKit
attribute [local go_sem] rsf
variable (m : PM) (p : Int) (kk : Option Addr) (kn kc : Nat) (q : Nat -> Option PX) (w : World)
theorem sf_set (H:FitsAt m kk kn kc q w):
  Calls Tryz.prog 74 #[.iface 173 (.agg (XA m p kk kn kc))] w fun e w'=>e= .returned (.bool (usesP m.toPD false true false false false&&(targetsR m.toPD kn q)))/\Onw w w':=by
 unfold XA
 obtain ⟨hn,hk,hkc,hnn,hz,htx,hm⟩:=H
 have ⟨O,B⟩:=st1 w 173 (XA m p kk kn kc)
 unfold XA at O B
 have bc:=B.cell
 have a_block:=as_block_no (t:=173) Zb
 have a_let:=as_let_no (t:=173) Zb
 have a_const:=as_const_no (t:=173) Zb
 have a_ownFn:=as_ownFn_no (t:=173) Zb
 have a_set:=as_set_yes
 go_enter Tryz.func74,Tryz.ntmps74
 go_wp2_with fail
 refine (usesOnly_any m p kk kn kc 2 _ false true false false false J269).mono ?_
 rintro e w1 ⟨rfl,hb⟩
 replace B:=B.onw hb
 replace O:=O.trans hb
 clear hb bc
 have bc:=B.cell
 cases h0:usesP m.toPD false true false false false
 ·exact J4
 ·go_wp2_with fail
  refine (targetsFit_any m p kk kn kc q _ hn hkc (hk.onw O)).mono ?_
  rintro e w2 ⟨rfl,hb⟩
  exact J30
end Go.Proofs.YtlibofjbhhdjdaaGreat
