import Derived.Test.YtlibofjbhhdjdaaGreatQ
import Derived.Test.YtlibofjbhhdjdaaGreatP38
set_option linter.unusedSimpArgs false
set_option maxRecDepth 100000
set_option maxHeartbeats 16000000
namespace Go.Proofs.YtlibofjbhhdjdaaGreat
open Go.RowKit
attribute [local go_sem] rsf
variable (m : PM) (p : Int) (kk : Option Addr) (kn kc : Nat) (q : Nat -> Option PX) (w : World)
theorem sf_block (H:FitsAt m kk kn kc q w):
  Calls Tryz.prog 74 #[.iface 129 (.agg (XA m p kk kn kc))] w fun e w'=>e= .returned (.bool (usesP m.toPD false false false false false&&(standR 1 kn q)))/\Onw w w':=by
 unfold XA
 obtain ⟨hn,hk,hkc,hnn,hz,htx,hm⟩:=H
 have ⟨O,B⟩:=st1 w 129 (XA m p kk kn kc)
 unfold XA at O B
 have bc:=B.cell
 have a_block:=as_block_yes
 go_enter Tryz.func74,Tryz.ntmps74
 go_wp2_with fail
 refine (usesOnly_any m p kk kn kc 0 _ false false false false false J269).mono ?_
 rintro e w1 ⟨rfl,hb⟩
 replace B:=B.onw hb
 replace O:=O.trans hb
 clear hb bc
 have bc:=B.cell
 cases h0:usesP m.toPD false false false false false
 ·exact J4
 ·go_wp2_with fail
  refine (standAs_any _ _ _ q 1 _ hn (hk.onw O)).mono ?_
  rintro e w2 ⟨rfl,hb⟩
  exact J30
theorem sf_let (H:FitsAt m kk kn kc q w):
  Calls Tryz.prog 74 #[.iface 131 (.agg (XA m p kk kn kc))] w fun e w'=>e= .returned (.bool (declP m.toPD 1 200&&(standR 8 kn q)))/\Onw w w':=by
 unfold XA
 obtain ⟨hn,hk,hkc,hnn,hz,htx,hm⟩:=H
 have ⟨O,B⟩:=st1 w 131 (XA m p kk kn kc)
 unfold XA at O B
 have bc:=B.cell
 have a_block:=as_block_no (t:=131) Zb
 have a_let:=as_let_yes
 go_enter Tryz.func74,Tryz.ntmps74
 go_wp2_with fail
 refine (declares_any m p kk kn kc 1 200 _ hnn hz (hm.onw O)).mono ?_
 rintro e w1 ⟨rfl,hb⟩
 replace B:=B.onw hb
 replace O:=O.trans hb
 clear hb bc
 have bc:=B.cell
 rw[declP_eq]
 cases h0:declP m.toPD 1 200
 ·exact J4
 ·exact J169
theorem sf_const (H:FitsAt m kk kn kc q w):
  Calls Tryz.prog 74 #[.iface 133 (.agg (XA m p kk kn kc))] w fun e w'=>e= .returned (.bool (declP m.toPD 1 1&&(kidsR [8] kn q)))/\Onw w w':=by
 unfold XA
 obtain ⟨hn,hk,hkc,hnn,hz,htx,hm⟩:=H
 have ⟨O,B⟩:=st1 w 133 (XA m p kk kn kc)
 unfold XA at O B
 have bc:=B.cell
 have a_block:=as_block_no (t:=133) Zb
 have a_let:=as_let_no (t:=133) Zb
 have a_const:=as_const_yes
 go_enter Tryz.func74,Tryz.ntmps74
 go_wp2_with fail
 refine (declares_any m p kk kn kc 1 1 _ hnn hz (hm.onw O)).mono ?_
 rintro e w1 ⟨rfl,hb⟩
 replace B:=B.onw hb
 replace O:=O.trans hb
 clear hb bc
 have bc:=B.cell
 rw[declP_eq]
 cases h0:declP m.toPD 1 1
 ·exact J4
 ·exact J77
theorem sf_ownFn (H:FitsAt m kk kn kc q w):
  Calls Tryz.prog 74 #[.iface 134 (.agg (XA m p kk kn kc))] w fun e w'=>e= .returned (.bool (declP m.toPD 1 1&&(kidsR [256] kn q)))/\Onw w w':=by
 unfold XA
 obtain ⟨hn,hk,hkc,hnn,hz,htx,hm⟩:=H
 have ⟨O,B⟩:=st1 w 134 (XA m p kk kn kc)
 unfold XA at O B
 have bc:=B.cell
 have a_block:=as_block_no (t:=134) Zb
 have a_let:=as_let_no (t:=134) Zb
 have a_const:=as_const_no (t:=134) Zb
 have a_ownFn:=as_ownFn_yes
 go_enter Tryz.func74,Tryz.ntmps74
 go_wp2_with fail
 refine (declares_any m p kk kn kc 1 1 _ hnn hz (hm.onw O)).mono ?_
 rintro e w1 ⟨rfl,hb⟩
 replace B:=B.onw hb
 replace O:=O.trans hb
 clear hb bc
 have bc:=B.cell
 rw[declP_eq]
 cases h0:declP m.toPD 1 1
 ·exact J4
 ·go_wp2_with fail
  refine (kidsAre_any m p kk kn kc q _ 1 _ (classF [256]) _ hn (hk.onw (O.trans (Onw.alloc _ _))) (by exact lay1 _ _ 256)).mono ?_
  exact J53
theorem sf_do (H:FitsAt m kk kn kc q w):
  Calls Tryz.prog 74 #[.iface 175 (.agg (XA m p kk kn kc))] w fun e w'=>e= .returned (.bool (usesP m.toPD false false false false false&&(kidsR [32] kn q)))/\Onw w w':=by
 unfold XA
 obtain ⟨hn,hk,hkc,hnn,hz,htx,hm⟩:=H
 have ⟨O,B⟩:=st1 w 175 (XA m p kk kn kc)
 unfold XA at O B
 have bc:=B.cell
 have a_block:=as_block_no (t:=175) Zb
 have a_let:=as_let_no (t:=175) Zb
 have a_const:=as_const_no (t:=175) Zb
 have a_ownFn:=as_ownFn_no (t:=175) Zb
 have a_set:=as_set_no (t:=175) Zb
 have a_do:=as_do_yes
 go_enter Tryz.func74,Tryz.ntmps74
 go_wp2_with fail
 refine (usesOnly_any m p kk kn kc 0 _ false false false false false J269).mono ?_
 rintro e w1 ⟨rfl,hb⟩
 replace B:=B.onw hb
 replace O:=O.trans hb
 clear hb bc
 have bc:=B.cell
 cases h0:usesP m.toPD false false false false false
 ·exact J4
 ·go_wp2_with fail
  refine (kidsAre_any m p kk kn kc q _ 1 _ (classF [32]) _ hn (hk.onw (O.trans (Onw.alloc _ _))) (by exact lay1 _ _ 32)).mono ?_
  exact J53
theorem ef_flt (H:FitsAt m kk kn kc q w):
  Calls Tryz.prog 75 #[.iface 184 (.agg (XA m p kk kn kc))] w fun e w'=>e= .returned (.bool (usesP m.toPD false false true false false&&(fnum m.flt&&(kidsR [] kn q))))/\Onw w w':=by
 unfold XA
 obtain ⟨hn,hk,hkc,hnn,hz,htx,hm⟩:=H
 have ⟨O,B⟩:=st1 w 184 (XA m p kk kn kc)
 unfold XA at O B
 have bc:=B.cell
 have a_bare:=as_bare_no (t:=184) Zb
 have a_rest:=as_rest_no (t:=184) Zb
 have a_int:=as_int_no (t:=184) Zb
 have a_flt:=as_flt_yes
 go_enter Tryz.func75,Tryz.ntmps75
 go_wp2_with fail
 refine (usesOnly_any m p kk kn kc 4 _ false false true false false J269).mono ?_
 rintro e w1 ⟨rfl,hb⟩
 replace B:=B.onw hb
 replace O:=O.trans hb
 clear hb bc
 have bc:=B.cell
 cases h0:usesP m.toPD false false true false false
 ·exact J4
 ·go_wp2_with fail
  refine (isNaN_any _ _).mono ?_
  rintro e v1 ⟨rfl,rfl⟩
  cases h1:fnum m.flt
  ·exact J4
  ·exact J131
theorem ef_str (H:FitsAt m kk kn kc q w):
  Calls Tryz.prog 75 #[.iface 186 (.agg (XA m p kk kn kc))] w fun e w'=>e= .returned (.bool (usesP m.toPD false false false true false&&(decide ((m.text.size:Int)<=4000)&&(kidsR [] kn q))))/\Onw w w':=by
 unfold XA
 obtain ⟨hn,hk,hkc,hnn,hz,htx,hm⟩:=H
 have ⟨O,B⟩:=st1 w 186 (XA m p kk kn kc)
 unfold XA at O B
 have bc:=B.cell
 have a_bare:=as_bare_no (t:=186) Zb
 have a_rest:=as_rest_no (t:=186) Zb
 have a_int:=as_int_no (t:=186) Zb
 have a_flt:=as_flt_no (t:=186) Zb
 have a_str:=as_str_yes
 go_enter Tryz.func75,Tryz.ntmps75
 go_wp2_with fail
 refine (usesOnly_any m p kk kn kc 8 _ false false false true false J269).mono ?_
 rintro e w1 ⟨rfl,hb⟩
 replace B:=B.onw hb
 replace O:=O.trans hb
 clear hb bc
 have bc:=B.cell
 cases h0:usesP m.toPD false false false true false
 ·exact J4
 ·by_cases c1:(m.text.size:Int)<=4000
  ·have h1:decide ((m.text.size:Int)<=4000)=true:=decide_eq_true c1
   exact J136
  ·have h1:decide ((m.text.size:Int)<=4000)=false:=decide_eq_false c1
   exact J4
theorem ef_name (H:FitsAt m kk kn kc q w):
  Calls Tryz.prog 75 #[.iface 141 (.agg (XA m p kk kn kc))] w fun e w'=>e= .returned (.bool (usesP m.toPD false false false true false&&(nameB m.text&&(kidsR [] kn q))))/\Onw w w':=by
 unfold XA
 obtain ⟨hn,hk,hkc,hnn,hz,htx,hm⟩:=H
 have ⟨O,B⟩:=st1 w 141 (XA m p kk kn kc)
 unfold XA at O B
 have bc:=B.cell
 have a_bare:=as_bare_no (t:=141) Zb
 have a_rest:=as_rest_no (t:=141) Zb
 have a_int:=as_int_no (t:=141) Zb
 have a_flt:=as_flt_no (t:=141) Zb
 have a_str:=as_str_no (t:=141) Zb
 have a_name:=as_name_yes
 go_enter Tryz.func75,Tryz.ntmps75
 go_wp2_with fail
 refine (usesOnly_any m p kk kn kc 8 _ false false false true false J269).mono ?_
 rintro e w1 ⟨rfl,hb⟩
 replace B:=B.onw hb
 replace O:=O.trans hb
 clear hb bc
 have bc:=B.cell
 cases h0:usesP m.toPD false false false true false
 ·exact J4
 ·go_wp2_with fail
  refine (isName_any _ _ htx).mono ?_
  rintro e v1 ⟨rfl,rfl⟩
  cases h1:nameB m.text
  ·exact J4
  ·exact J131
theorem ef_field (H:FitsAt m kk kn kc q w):
  Calls Tryz.prog 75 #[.iface 191 (.agg (XA m p kk kn kc))] w fun e w'=>e= .returned (.bool (usesP m.toPD false false false true false&&(nameB m.text&&(kidsR [16] kn q))))/\Onw w w':=by
 unfold XA
 obtain ⟨hn,hk,hkc,hnn,hz,htx,hm⟩:=H
 have ⟨O,B⟩:=st1 w 191 (XA m p kk kn kc)
 unfold XA at O B
 have bc:=B.cell
 have a_bare:=as_bare_no (t:=191) Zb
 have a_rest:=as_rest_no (t:=191) Zb
 have a_int:=as_int_no (t:=191) Zb
 have a_flt:=as_flt_no (t:=191) Zb
 have a_str:=as_str_no (t:=191) Zb
 have a_name:=as_name_no (t:=191) Zb
 have a_either:=as_either_no (t:=191) Zb
 have a_unary:=as_unary_no (t:=191) Zb
 have a_binary:=as_binary_no (t:=191) Zb
 have a_index:=as_index_no (t:=191) Zb
 have a_field:=as_field_yes
 go_enter Tryz.func75,Tryz.ntmps75
 go_wp2_with fail
 refine (usesOnly_any m p kk kn kc 8 _ false false false true false J269).mono ?_
 rintro e w1 ⟨rfl,hb⟩
 replace B:=B.onw hb
 replace O:=O.trans hb
 clear hb bc
 have bc:=B.cell
 cases h0:usesP m.toPD false false false true false
 ·exact J4
 ·go_wp2_with fail
  refine (isName_any _ _ htx).mono ?_
  rintro e v1 ⟨rfl,rfl⟩
  cases h1:nameB m.text
  ·exact J4
  ·go_wp2_with fail
   refine (kidsAre_any m p kk kn kc q _ 1 _ (classF [16]) _ hn (hk.onw (O.trans (Onw.alloc _ _))) (by exact lay1 _ _ 16)).mono ?_
   exact J185
end Go.Proofs.YtlibofjbhhdjdaaGreat
