import Derived.Test.YtlibofjbhhdjdaaGreatQ
import Derived.Test.YtlibofjbhhdjdaaGreatP38
set_option linter.unusedSimpArgs false
set_option maxRecDepth 100000
set_option maxHeartbeats 16000000
namespace Go.Proofs.YtlibofjbhhdjdaaGreat
open Go.RowKit
attribute [local go_sem] rsf
variable {t:TypeId}
theorem sf_no (h:t≠129/\t≠131/\t≠133/\t≠134/\t≠173/\t≠175/\t≠176/\t≠177/\t≠135/\t≠136/\t≠178/\t≠179/\t≠137/\t≠180)(m:PM)(p:Int)(kk:Option Addr)(kn kc:Nat)(w:World):
  Calls Tryz.prog 74 #[.iface t (.agg (XA m p kk kn kc))] w fun e w'=>e= .returned (.bool false)/\Onw w w':=by
 unfold XA
 obtain ⟨h_block,h_let,h_const,h_ownFn,h_set,h_do,h_if,h_while,h_for,h_each,h_jump,h_return,h_try,h_throw⟩:=h
 have a_block:=as_block_no h_block
 have a_let:=as_let_no h_let
 have a_const:=as_const_no h_const
 have a_ownFn:=as_ownFn_no h_ownFn
 have a_set:=as_set_no h_set
 have a_do:=as_do_no h_do
 have a_if:=as_if_no h_if
 have a_while:=as_while_no h_while
 have a_for:=as_for_no h_for
 have a_each:=as_each_no h_each
 have a_jump:=as_jump_no h_jump
 have a_return:=as_return_no h_return
 have a_try:=as_try_no h_try
 have a_throw:=as_throw_no h_throw
 clear h_block h_let h_const h_ownFn h_set h_do h_if h_while h_for h_each h_jump h_return h_try h_throw
 go_enter Tryz.func74,Tryz.ntmps74
 go_wp2_with fail
 exact J139
theorem ef_no (h:t≠181/\t≠182/\t≠183/\t≠184/\t≠186/\t≠141/\t≠187/\t≠188/\t≠189/\t≠190/\t≠191/\t≠192/\t≠193/\t≠140/\t≠195)(m:PM)(p:Int)(kk:Option Addr)(kn kc:Nat)(w:World):
  Calls Tryz.prog 75 #[.iface t (.agg (XA m p kk kn kc))] w fun e w'=>e= .returned (.bool false)/\Onw w w':=by
 unfold XA
 obtain ⟨h_bare,h_rest,h_int,h_flt,h_str,h_name,h_either,h_unary,h_binary,h_index,h_field,h_call,h_table,h_fn,h_one⟩:=h
 have a_bare:=as_bare_no h_bare
 have a_rest:=as_rest_no h_rest
 have a_int:=as_int_no h_int
 have a_flt:=as_flt_no h_flt
 have a_str:=as_str_no h_str
 have a_name:=as_name_no h_name
 have a_either:=as_either_no h_either
 have a_unary:=as_unary_no h_unary
 have a_binary:=as_binary_no h_binary
 have a_index:=as_index_no h_index
 have a_field:=as_field_no h_field
 have a_call:=as_call_no h_call
 have a_table:=as_table_no h_table
 have a_fn:=as_fn_no h_fn
 have a_one:=as_one_no h_one
 clear h_bare h_rest h_int h_flt h_str h_name h_either h_unary h_binary h_index h_field h_call h_table h_fn h_one
 go_enter Tryz.func75,Tryz.ntmps75
 go_wp2_with fail
 exact J139
theorem nf_no (h:t≠198/\t≠199/\t≠200)(m:PM)(p:Int)(kk:Option Addr)(kn kc:Nat)(w:World):
  Calls Tryz.prog 76 #[.iface t (.agg (XA m p kk kn kc))] w fun e w'=>e= .returned (.bool false)/\Onw w w':=by
 unfold XA
 obtain ⟨h_item,h_pair,h_named⟩:=h
 have a_item:=as_item_no h_item
 have a_pair:=as_pair_no h_pair
 have a_named:=as_named_no h_named
 clear h_item h_pair h_named
 go_enter Tryz.func76,Tryz.ntmps76
 go_wp2_with fail
 exact J139
end Go.Proofs.YtlibofjbhhdjdaaGreat
namespace Go.Proofs.YtlibofjbhhdjdaaGreat
open Go.RowKit
attribute [local go_sem] rsf
variable (m : PM) (p : Int) (kk : Option Addr) (kn kc : Nat) (q : Nat -> Option PX) (w : World)
theorem sf_if (H:FitsAt m kk kn kc q w):
  Calls Tryz.prog 74 #[.iface 176 (.agg (XA m p kk kn kc))] w fun e w'=>e= .returned (.bool (usesP m.toPD false false false false false&&((kidsR [8,2] kn q||kidsR [8,2,4] kn q))))/\Onw w w':=by
 unfold XA
 obtain ⟨hn,hk,hkc,hnn,hz,htx,hm⟩:=H
 have ⟨O,B⟩:=st1 w 176 (XA m p kk kn kc)
 unfold XA at O B
 have bc:=B.cell
 have a_block:=as_block_no (t:=176) Zb
 have a_let:=as_let_no (t:=176) Zb
 have a_const:=as_const_no (t:=176) Zb
 have a_ownFn:=as_ownFn_no (t:=176) Zb
 have a_set:=as_set_no (t:=176) Zb
 have a_do:=as_do_no (t:=176) Zb
 have a_if:=as_if_yes
 go_enter Tryz.func74,Tryz.ntmps74
 go_wp2_with fail
 refine (usesOnly_any m p kk kn kc 0 _ false false false false false J269).mono ?_
 rintro e w1 ⟨rfl,hb⟩
 replace B:=B.onw hb
 replace O:=O.trans hb
 clear hb bc
 have bc:=B.cell
 cases h0:usesP m.toPD false false false false false
 ·exact J4
 ·go_wp2_with fail
  refine (kidsAre_any m p kk kn kc q _ 2 _ (classF [8,2]) _ hn (hk.onw (O.trans (Onw.alloc _ _))) (by exact lay2 _ _ 8 2)).mono ?_
  rintro e v0 ⟨rfl,hb⟩
  replace hb:=(Onw.alloc _ _).trans hb
  replace B:=B.onw hb
  replace O:=O.trans hb
  clear hb bc
  have bc:=B.cell
  have hE:Hid (((kn:Int)==((2:Nat):Int)&&allB (fun i=>hasR (roleO (q i)) (classF [8,2] i)) 0 2)=kidsR [8,2] kn q):=rfl
  rw[hE.out]
  clear hE
  cases h9:kidsR [8,2] kn q
  rotate_left
  ·exact J4
  go_wp2_with fail
  refine (kidsAre_any m p kk kn kc q _ 3 _ (classF [8,2,4]) _ hn (hk.onw (O.trans (Onw.alloc _ _))) (by exact lay3 _ _ 8 2 4)).mono ?_
  rintro e v1 ⟨rfl,hb⟩
  replace hb:=(Onw.alloc _ _).trans hb
  replace B:=B.onw hb
  replace O:=O.trans hb
  clear hb bc
  have bc:=B.cell
  have hE:Hid (((kn:Int)==((3:Nat):Int)&&allB (fun i=>hasR (roleO (q i)) (classF [8,2,4] i)) 0 3)=kidsR [8,2,4] kn q):=rfl
  rw[hE.out]
  clear hE
  exact J4
theorem sf_while (H:FitsAt m kk kn kc q w):
  Calls Tryz.prog 74 #[.iface 177 (.agg (XA m p kk kn kc))] w fun e w'=>e= .returned (.bool (usesP m.toPD false false false false false&&(kidsR [8,2] kn q)))/\Onw w w':=by
 unfold XA
 obtain ⟨hn,hk,hkc,hnn,hz,htx,hm⟩:=H
 have ⟨O,B⟩:=st1 w 177 (XA m p kk kn kc)
 unfold XA at O B
 have bc:=B.cell
 have a_block:=as_block_no (t:=177) Zb
 have a_let:=as_let_no (t:=177) Zb
 have a_const:=as_const_no (t:=177) Zb
 have a_ownFn:=as_ownFn_no (t:=177) Zb
 have a_set:=as_set_no (t:=177) Zb
 have a_do:=as_do_no (t:=177) Zb
 have a_if:=as_if_no (t:=177) Zb
 have a_while:=as_while_yes
 go_enter Tryz.func74,Tryz.ntmps74
 go_wp2_with fail
 refine (usesOnly_any m p kk kn kc 0 _ false false false false false J269).mono ?_
 rintro e w1 ⟨rfl,hb⟩
 replace B:=B.onw hb
 replace O:=O.trans hb
 clear hb bc
 have bc:=B.cell
 cases h0:usesP m.toPD false false false false false
 ·exact J4
 ·exact J149
theorem sf_for (H:FitsAt m kk kn kc q w):
  Calls Tryz.prog 74 #[.iface 135 (.agg (XA m p kk kn kc))] w fun e w'=>e= .returned (.bool (declP m.toPD 1 1&&((kidsR [8,8,2] kn q||kidsR [8,8,8,2] kn q))))/\Onw w w':=by
 unfold XA
 obtain ⟨hn,hk,hkc,hnn,hz,htx,hm⟩:=H
 have ⟨O,B⟩:=st1 w 135 (XA m p kk kn kc)
 unfold XA at O B
 have bc:=B.cell
 have a_block:=as_block_no (t:=135) Zb
 have a_let:=as_let_no (t:=135) Zb
 have a_const:=as_const_no (t:=135) Zb
 have a_ownFn:=as_ownFn_no (t:=135) Zb
 have a_set:=as_set_no (t:=135) Zb
 have a_do:=as_do_no (t:=135) Zb
 have a_if:=as_if_no (t:=135) Zb
 have a_while:=as_while_no (t:=135) Zb
 have a_for:=as_for_yes
 go_enter Tryz.func74,Tryz.ntmps74
 go_wp2_with fail
 refine (declares_any m p kk kn kc 1 1 _ hnn hz (hm.onw O)).mono ?_
 rintro e w1 ⟨rfl,hb⟩
 replace B:=B.onw hb
 replace O:=O.trans hb
 clear hb bc
 have bc:=B.cell
 rw[declP_eq]
 cases h0:declP m.toPD 1 1
 ·exact J4
 ·go_wp2_with fail
  refine (kidsAre_any m p kk kn kc q _ 3 _ (classF [8,8,2]) _ hn (hk.onw (O.trans (Onw.alloc _ _))) (by exact lay3 _ _ 8 8 2)).mono ?_
  rintro e v0 ⟨rfl,hb⟩
  replace hb:=(Onw.alloc _ _).trans hb
  replace B:=B.onw hb
  replace O:=O.trans hb
  clear hb bc
  have bc:=B.cell
  have hE:Hid (((kn:Int)==((3:Nat):Int)&&allB (fun i=>hasR (roleO (q i)) (classF [8,8,2] i)) 0 3)=kidsR [8,8,2] kn q):=rfl
  rw[hE.out]
  clear hE
  cases h9:kidsR [8,8,2] kn q
  rotate_left
  ·exact J4
  go_wp2_with fail
  refine (kidsAre_any m p kk kn kc q _ 4 _ (classF [8,8,8,2]) _ hn (hk.onw (O.trans (Onw.alloc _ _))) (by exact lay4 _ _ 8 8 8 2)).mono ?_
  rintro e v1 ⟨rfl,hb⟩
  replace hb:=(Onw.alloc _ _).trans hb
  replace B:=B.onw hb
  replace O:=O.trans hb
  clear hb bc
  have bc:=B.cell
  have hE:Hid (((kn:Int)==((4:Nat):Int)&&allB (fun i=>hasR (roleO (q i)) (classF [8,8,8,2] i)) 0 4)=kidsR [8,8,8,2] kn q):=rfl
  rw[hE.out]
  clear hE
  exact J4
theorem nf_item (H:FitsAt m kk kn kc q w):
  Calls Tryz.prog 76 #[.iface 198 (.agg (XA m p kk kn kc))] w fun e w'=>e= .returned (.bool (usesP m.toPD false false false false false&&(kidsR [8] kn q)))/\Onw w w':=by
 unfold XA
 obtain ⟨hn,hk,hkc,hnn,hz,htx,hm⟩:=H
 have ⟨O,B⟩:=st1 w 198 (XA m p kk kn kc)
 unfold XA at O B
 have bc:=B.cell
 have a_item:=as_item_yes
 go_enter Tryz.func76,Tryz.ntmps76
 exact J103
theorem nf_pair (H:FitsAt m kk kn kc q w):
  Calls Tryz.prog 76 #[.iface 199 (.agg (XA m p kk kn kc))] w fun e w'=>e= .returned (.bool (usesP m.toPD false false false false false&&(kidsR [8,8] kn q)))/\Onw w w':=by
 unfold XA
 obtain ⟨hn,hk,hkc,hnn,hz,htx,hm⟩:=H
 have ⟨O,B⟩:=st1 w 199 (XA m p kk kn kc)
 unfold XA at O B
 have bc:=B.cell
 have a_item:=as_item_no (t:=199) Zb
 have a_pair:=as_pair_yes
 go_enter Tryz.func76,Tryz.ntmps76
 exact J80
theorem nf_named (H:FitsAt m kk kn kc q w):
  Calls Tryz.prog 76 #[.iface 200 (.agg (XA m p kk kn kc))] w fun e w'=>e= .returned (.bool (usesP m.toPD false false false true false&&(nameB m.text&&(kidsR [8] kn q))))/\Onw w w':=by
 unfold XA
 obtain ⟨hn,hk,hkc,hnn,hz,htx,hm⟩:=H
 have ⟨O,B⟩:=st1 w 200 (XA m p kk kn kc)
 unfold XA at O B
 have bc:=B.cell
 have a_item:=as_item_no (t:=200) Zb
 have a_pair:=as_pair_no (t:=200) Zb
 have a_named:=as_named_yes
 go_enter Tryz.func76,Tryz.ntmps76
 go_wp2_with fail
 refine (usesOnly_any m p kk kn kc 8 _ false false false true false J269).mono ?_
 rintro e w1 ⟨rfl,hb⟩
 replace B:=B.onw hb
 replace O:=O.trans hb
 clear hb bc
 have bc:=B.cell
 cases h0:usesP m.toPD false false false true false
 ·exact J4
 ·go_wp2_with fail
  refine (isName_any _ _ htx).mono ?_
  rintro e v1 ⟨rfl,rfl⟩
  cases h1:nameB m.text
  ·exact J4
  ·go_wp2_with fail
   refine (kidsAre_any m p kk kn kc q _ 1 _ (classF [8]) _ hn (hk.onw (O.trans (Onw.alloc _ _))) (by exact lay1 _ _ 8)).mono ?_
   exact J185
end Go.Proofs.YtlibofjbhhdjdaaGreat
