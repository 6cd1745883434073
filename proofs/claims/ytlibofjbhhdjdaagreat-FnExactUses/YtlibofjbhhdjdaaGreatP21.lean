import Derived.Test.YtlibofjbhhdjdaaGreatQ
import Derived.Test.YtlibofjbhhdjdaaGreatP08
set_option linter.unusedSimpArgs false
set_option maxRecDepth 100000
set_option maxHeartbeats 16000000
namespace Go.Proofs.YtlibofjbhhdjdaaGreat
open Go.RowKit
set_option linter.defProp false
variable {T:TypeId}
def MethOk (t:TypeId) (s:String) (f:FuncId):Prop:=∀(v0 v1 v2 v3 v4 v5 v6 v7 v8 v9 v10 v11:Value) (w:World),Sem.run Tryz.prog (method 354 t (.agg #[v0,v1,v2,v3,v4,v5,v6,v7,v8,v9,v10,v11]) s) w= .ok (f,.agg #[v0,v1,v2,v3,v4,v5,v6,v7,v8,v9,v10,v11]) w
def IsOk (T:TypeId):Prop:=∀(t:TypeId) (v:Value) (w:World),Sem.run Tryz.prog (Instr.typeAssert (.iface t v) 102 T true) w=Sem.run Tryz.prog (if t=T then pure (.tuple #[v,.bool true]) else (do let z<-zeroValue T;pure (.tuple #[z,.bool false]))) w
def ZeroOk (T:TypeId):Prop:=∀w:World,Sem.run Tryz.prog (do let z<-zeroValue T;pure (Value.tuple #[z,.bool false])) w= .ok (Value.tuple #[.agg #[.int .i64 0,.int .i64 0,.int .i64 0,.int .i64 0,.int .i64 0,.int .i64 0,.int .i64 0,.float .f64 0,.string ByteArray.empty,.slice none 0 0,.slice none 0 0,.slice none 0 0],.bool false]) w
theorem as_yes (h:IsOk T)(v:Value)(w:World):Sem.run Tryz.prog (Instr.typeAssert (.iface T v) 102 T true) w= .ok (.tuple #[v,.bool true]) w:=by
 rw[h,if_pos rfl];rfl
theorem as_no {T t:TypeId}(h:IsOk T)(z:ZeroOk T)(hne:t≠T)(v:Value)(w:World):Sem.run Tryz.prog (Instr.typeAssert (.iface t v) 102 T true) w= .ok (.tuple #[.agg #[.int .i64 0,.int .i64 0,.int .i64 0,.int .i64 0,.int .i64 0,.int .i64 0,.int .i64 0,.float .f64 0,.string ByteArray.empty,.slice none 0 0,.slice none 0 0,.slice none 0 0],.bool false]) w:=by
 rw[h,if_neg hne];exact z w
theorem ti_block:IsOk 129:=fun _ _ _=>by kernel_rfl
def as_block_yes:=as_yes ti_block
theorem tz_block:ZeroOk 129:=fun _=>by kernel_rfl
def as_block_no {t:TypeId} (h:t≠129):=as_no ti_block tz_block h
theorem ti_let:IsOk 131:=fun _ _ _=>by kernel_rfl
def as_let_yes:=as_yes ti_let
theorem tz_let:ZeroOk 131:=fun _=>by kernel_rfl
def as_let_no {t:TypeId} (h:t≠131):=as_no ti_let tz_let h
theorem ti_const:IsOk 133:=fun _ _ _=>by kernel_rfl
def as_const_yes:=as_yes ti_const
theorem tz_const:ZeroOk 133:=fun _=>by kernel_rfl
def as_const_no {t:TypeId} (h:t≠133):=as_no ti_const tz_const h
theorem ti_ownFn:IsOk 134:=fun _ _ _=>by kernel_rfl
def as_ownFn_yes:=as_yes ti_ownFn
theorem tz_ownFn:ZeroOk 134:=fun _=>by kernel_rfl
def as_ownFn_no {t:TypeId} (h:t≠134):=as_no ti_ownFn tz_ownFn h
theorem ti_set:IsOk 173:=fun _ _ _=>by kernel_rfl
def as_set_yes:=as_yes ti_set
theorem tz_set:ZeroOk 173:=fun _=>by kernel_rfl
def as_set_no {t:TypeId} (h:t≠173):=as_no ti_set tz_set h
theorem ti_do:IsOk 175:=fun _ _ _=>by kernel_rfl
def as_do_yes:=as_yes ti_do
theorem tz_do:ZeroOk 175:=fun _=>by kernel_rfl
def as_do_no {t:TypeId} (h:t≠175):=as_no ti_do tz_do h
theorem ti_if:IsOk 176:=fun _ _ _=>by kernel_rfl
def as_if_yes:=as_yes ti_if
theorem tz_if:ZeroOk 176:=fun _=>by kernel_rfl
def as_if_no {t:TypeId} (h:t≠176):=as_no ti_if tz_if h
theorem ti_while:IsOk 177:=fun _ _ _=>by kernel_rfl
def as_while_yes:=as_yes ti_while
theorem tz_while:ZeroOk 177:=fun _=>by kernel_rfl
def as_while_no {t:TypeId} (h:t≠177):=as_no ti_while tz_while h
theorem ti_for:IsOk 135:=fun _ _ _=>by kernel_rfl
def as_for_yes:=as_yes ti_for
theorem tz_for:ZeroOk 135:=fun _=>by kernel_rfl
def as_for_no {t:TypeId} (h:t≠135):=as_no ti_for tz_for h
theorem ti_each:IsOk 136:=fun _ _ _=>by kernel_rfl
def as_each_yes:=as_yes ti_each
theorem tz_each:ZeroOk 136:=fun _=>by kernel_rfl
def as_each_no {t:TypeId} (h:t≠136):=as_no ti_each tz_each h
theorem ti_jump:IsOk 178:=fun _ _ _=>by kernel_rfl
def as_jump_yes:=as_yes ti_jump
theorem tz_jump:ZeroOk 178:=fun _=>by kernel_rfl
def as_jump_no {t:TypeId} (h:t≠178):=as_no ti_jump tz_jump h
theorem ti_return:IsOk 179:=fun _ _ _=>by kernel_rfl
def as_return_yes:=as_yes ti_return
theorem tz_return:ZeroOk 179:=fun _=>by kernel_rfl
def as_return_no {t:TypeId} (h:t≠179):=as_no ti_return tz_return h
theorem ti_try:IsOk 137:=fun _ _ _=>by kernel_rfl
def as_try_yes:=as_yes ti_try
theorem tz_try:ZeroOk 137:=fun _=>by kernel_rfl
def as_try_no {t:TypeId} (h:t≠137):=as_no ti_try tz_try h
theorem ti_throw:IsOk 180:=fun _ _ _=>by kernel_rfl
def as_throw_yes:=as_yes ti_throw
theorem tz_throw:ZeroOk 180:=fun _=>by kernel_rfl
def as_throw_no {t:TypeId} (h:t≠180):=as_no ti_throw tz_throw h
theorem ti_bare:IsOk 181:=fun _ _ _=>by kernel_rfl
def as_bare_yes:=as_yes ti_bare
theorem tz_bare:ZeroOk 181:=fun _=>by kernel_rfl
def as_bare_no {t:TypeId} (h:t≠181):=as_no ti_bare tz_bare h
theorem ti_int:IsOk 183:=fun _ _ _=>by kernel_rfl
def as_int_yes:=as_yes ti_int
theorem tz_int:ZeroOk 183:=fun _=>by kernel_rfl
def as_int_no {t:TypeId} (h:t≠183):=as_no ti_int tz_int h
theorem ti_flt:IsOk 184:=fun _ _ _=>by kernel_rfl
def as_flt_yes:=as_yes ti_flt
theorem tz_flt:ZeroOk 184:=fun _=>by kernel_rfl
def as_flt_no {t:TypeId} (h:t≠184):=as_no ti_flt tz_flt h
theorem ti_str:IsOk 186:=fun _ _ _=>by kernel_rfl
def as_str_yes:=as_yes ti_str
theorem tz_str:ZeroOk 186:=fun _=>by kernel_rfl
def as_str_no {t:TypeId} (h:t≠186):=as_no ti_str tz_str h
theorem ti_name:IsOk 141:=fun _ _ _=>by kernel_rfl
def as_name_yes:=as_yes ti_name
theorem tz_name:ZeroOk 141:=fun _=>by kernel_rfl
def as_name_no {t:TypeId} (h:t≠141):=as_no ti_name tz_name h
theorem ti_rest:IsOk 182:=fun _ _ _=>by kernel_rfl
def as_rest_yes:=as_yes ti_rest
theorem tz_rest:ZeroOk 182:=fun _=>by kernel_rfl
def as_rest_no {t:TypeId} (h:t≠182):=as_no ti_rest tz_rest h
theorem ti_either:IsOk 187:=fun _ _ _=>by kernel_rfl
def as_either_yes:=as_yes ti_either
theorem tz_either:ZeroOk 187:=fun _=>by kernel_rfl
def as_either_no {t:TypeId} (h:t≠187):=as_no ti_either tz_either h
theorem ti_unary:IsOk 188:=fun _ _ _=>by kernel_rfl
def as_unary_yes:=as_yes ti_unary
theorem tz_unary:ZeroOk 188:=fun _=>by kernel_rfl
def as_unary_no {t:TypeId} (h:t≠188):=as_no ti_unary tz_unary h
theorem ti_binary:IsOk 189:=fun _ _ _=>by kernel_rfl
def as_binary_yes:=as_yes ti_binary
theorem tz_binary:ZeroOk 189:=fun _=>by kernel_rfl
def as_binary_no {t:TypeId} (h:t≠189):=as_no ti_binary tz_binary h
theorem ti_index:IsOk 190:=fun _ _ _=>by kernel_rfl
def as_index_yes:=as_yes ti_index
theorem tz_index:ZeroOk 190:=fun _=>by kernel_rfl
def as_index_no {t:TypeId} (h:t≠190):=as_no ti_index tz_index h
theorem ti_field:IsOk 191:=fun _ _ _=>by kernel_rfl
def as_field_yes:=as_yes ti_field
theorem tz_field:ZeroOk 191:=fun _=>by kernel_rfl
def as_field_no {t:TypeId} (h:t≠191):=as_no ti_field tz_field h
theorem ti_call:IsOk 192:=fun _ _ _=>by kernel_rfl
def as_call_yes:=as_yes ti_call
theorem tz_call:ZeroOk 192:=fun _=>by kernel_rfl
def as_call_no {t:TypeId} (h:t≠192):=as_no ti_call tz_call h
theorem ti_table:IsOk 193:=fun _ _ _=>by kernel_rfl
def as_table_yes:=as_yes ti_table
theorem tz_table:ZeroOk 193:=fun _=>by kernel_rfl
def as_table_no {t:TypeId} (h:t≠193):=as_no ti_table tz_table h
theorem ti_fn:IsOk 140:=fun _ _ _=>by kernel_rfl
def as_fn_yes:=as_yes ti_fn
theorem tz_fn:ZeroOk 140:=fun _=>by kernel_rfl
def as_fn_no {t:TypeId} (h:t≠140):=as_no ti_fn tz_fn h
theorem ti_one:IsOk 195:=fun _ _ _=>by kernel_rfl
def as_one_yes:=as_yes ti_one
theorem tz_one:ZeroOk 195:=fun _=>by kernel_rfl
def as_one_no {t:TypeId} (h:t≠195):=as_no ti_one tz_one h
theorem ti_item:IsOk 198:=fun _ _ _=>by kernel_rfl
def as_item_yes:=as_yes ti_item
theorem tz_item:ZeroOk 198:=fun _=>by kernel_rfl
def as_item_no {t:TypeId} (h:t≠198):=as_no ti_item tz_item h
theorem ti_pair:IsOk 199:=fun _ _ _=>by kernel_rfl
def as_pair_yes:=as_yes ti_pair
theorem tz_pair:ZeroOk 199:=fun _=>by kernel_rfl
def as_pair_no {t:TypeId} (h:t≠199):=as_no ti_pair tz_pair h
theorem ti_named:IsOk 200:=fun _ _ _=>by kernel_rfl
def as_named_yes:=as_yes ti_named
theorem tz_named:ZeroOk 200:=fun _=>by kernel_rfl
def as_named_no {t:TypeId} (h:t≠200):=as_no ti_named tz_named h
def leastK (k:Int):FuncId:=if 1<=k/\k<=16 then 156 else 153
def leastFn (d:PD):FuncId:= @ite _ (slimP d) (slimD d) (leastK d.kind) 153
theorem meth_top_k (k:Int):MethOk (partT k) "loop.example/reed/impl.top" 154:=by
 rcases kinds_all k with h|h|h|h|h|h|h|h|h|h|h|h|h|h|h|h|h|h|h|h|h|h|h|h|h|h|h|h|h|h|h|h|h|h|h|h|h|⟨h,_,h2⟩
 all_goals (rw[h];intro v0 v1 v2 v3 v4 v5 v6 v7 v8 v9 v10 v11 w;kernel_rfl)
theorem meth_top (d:PD):MethOk (ptT d) "loop.example/reed/impl.top" 154:=by
 unfold ptT
 by_cases h:slimP d
 ·rw[if_pos h];exact meth_top_k _
 ·rw[if_neg h];intro v0 v1 v2 v3 v4 v5 v6 v7 v8 v9 v10 v11 w;kernel_rfl
theorem meth_least_k (k:Int):MethOk (partT k) "loop.example/reed/impl.leastLine" (leastK k):=by
 rcases kinds_all k with h|h|h|h|h|h|h|h|h|h|h|h|h|h|h|h|h|h|h|h|h|h|h|h|h|h|h|h|h|h|h|h|h|h|h|h|h|⟨h,_,h2⟩
 iterate 37 (focus (rw[h];intro v0 v1 v2 v3 v4 v5 v6 v7 v8 v9 v10 v11 w;kernel_rfl))
 rw[h,show leastK k=153 from if_neg Zo]
 intro v0 v1 v2 v3 v4 v5 v6 v7 v8 v9 v10 v11 w;kernel_rfl
theorem meth_leastLine (d:PD):MethOk (ptT d) "loop.example/reed/impl.leastLine" (leastFn d):=by
 unfold ptT leastFn
 by_cases h:slimP d
 ·rw[if_pos h,if_pos h];exact meth_least_k _
 ·rw[if_neg h,if_neg h];intro v0 v1 v2 v3 v4 v5 v6 v7 v8 v9 v10 v11 w;kernel_rfl
theorem meth_top_block:MethOk 129 "loop.example/reed/impl.top" 154:=meth_top_k 1
theorem meth_top_for:MethOk 135 "loop.example/reed/impl.top" 154:=meth_top_k 9
theorem meth_top_each:MethOk 136 "loop.example/reed/impl.top" 154:=meth_top_k 10
theorem meth_top_try:MethOk 137 "loop.example/reed/impl.top" 154:=meth_top_k 14
end Go.Proofs.YtlibofjbhhdjdaaGreat
namespace Go.Proofs.YtlibofjbhhdjdaaGreat
open Go.RowKit
attribute [local go_sem] rsf
variable {T:TypeId}
theorem top_any (m:PM)(p:Int)(kk:Option Addr)(kn kc:Nat)(w:World):
  Calls Tryz.prog 154 #[.agg (XA m p kk kn kc)] w fun e w'=>e= .returned (.agg (XA m p kk kn kc))/\Onw w w':=by
 unfold XA
 go_enter Tryz.func154,Tryz.ntmps154
 go_wp2
 exact bodyPost_ret (v:= .agg #[.int .i64 p,.int .i64 m.kind,.int .i64 m.frm,.int .i64 m.tto,.int .i64 m.line,.int .i64 m.op,.int .i64 m.num,.float .f64 m.flt,.string m.text,.slice m.na m.nn m.nc,.slice m.ka m.nk m.kc,.slice kk kn kc]) (by simp[results,Tryz.results154,go_sem]) rfl ⟨rfl,(Onw.alloc _ _).trans (Onw.alloc _ _)⟩
theorem family_statementHeader (m:PM)(p:Int)(kk:Option Addr)(kn kc:Nat)(w:World):Calls Tryz.prog 155 #[.agg (XA m p kk kn kc)] w fun e w'=>e= .returned (.int .i64 1)/\Onw w w':=by
 unfold XA
 go_enter Tryz.func155,Tryz.ntmps155
 exact J45
theorem family_expressionHeader (m:PM)(p:Int)(kk:Option Addr)(kn kc:Nat)(w:World):Calls Tryz.prog 157 #[.agg (XA m p kk kn kc)] w fun e w'=>e= .returned (.int .i64 24)/\Onw w w':=by
 unfold XA
 go_enter Tryz.func157,Tryz.ntmps157
 exact J45
theorem family_entryHeader (m:PM)(p:Int)(kk:Option Addr)(kn kc:Nat)(w:World):Calls Tryz.prog 158 #[.agg (XA m p kk kn kc)] w fun e w'=>e= .returned (.int .i64 512)/\Onw w w':=by
 unfold XA
 go_enter Tryz.func158,Tryz.ntmps158
 exact J45
theorem family_partHeader (m:PM)(p:Int)(kk:Option Addr)(kn kc:Nat)(w:World):Calls Tryz.prog 152 #[.agg (XA m p kk kn kc)] w fun e w'=>e= .returned (.int .i64 0)/\Onw w w':=by
 unfold XA
 go_enter Tryz.func152,Tryz.ntmps152
 exact J45
theorem leastLine_statementHeader (m:PM)(p:Int)(kk:Option Addr)(kn kc:Nat)(w:World):Calls Tryz.prog 156 #[.agg (XA m p kk kn kc)] w fun e w'=>e= .returned (.int .i64 1)/\Onw w w':=by
 unfold XA
 go_enter Tryz.func156,Tryz.ntmps156
 exact J45
theorem leastLine_partHeader (m:PM)(p:Int)(kk:Option Addr)(kn kc:Nat)(w:World):Calls Tryz.prog 153 #[.agg (XA m p kk kn kc)] w fun e w'=>e= .returned (.int .i64 0)/\Onw w w':=by
 unfold XA
 go_enter Tryz.func153,Tryz.ntmps153
 exact J45
def RolesT (T:TypeId) (r:Int):Prop:=∀(m:PM) (p:Int) (kk:Option Addr) (kn kc:Nat) (w:World),Calls Tryz.prog 113 #[.iface T (.agg #[.int .i64 p,.int .i64 m.kind,.int .i64 m.frm,.int .i64 m.tto,.int .i64 m.line,.int .i64 m.op,.int .i64 m.num,.float .f64 m.flt,.string m.text,.slice m.na m.nn m.nc,.slice m.ka m.nk m.kc,.slice kk kn kc])] w fun e w'=>e= .returned (.int .i64 r)/\Onw w w'
theorem rolesOf_nil (w:World):Calls Tryz.prog 113 #[.nilIface] w fun e w'=>e= .returned (.int .i64 0)/\Onw w w':=by
 exact J105
theorem rolesOf_block:RolesT 129 7:=by
 intro m p kk kn kc w
 have a_block:=as_block_yes
 exact J105
theorem rolesOf_if:RolesT 176 5:=by
 intro m p kk kn kc w
 have a_block:=as_block_no (t:=176) Zb
 have a_if:=as_if_yes
 exact J105
theorem rolesOf_rest:RolesT 182 72:=by
 intro m p kk kn kc w
 have a_block:=as_block_no (t:=182) Zb
 have a_if:=as_if_no (t:=182) Zb
 have a_rest:=as_rest_yes
 exact J105
theorem rolesOf_call:RolesT 192 120:=by
 intro m p kk kn kc w
 have a_block:=as_block_no (t:=192) Zb
 have a_if:=as_if_no (t:=192) Zb
 have a_rest:=as_rest_no (t:=192) Zb
 have a_call:=as_call_yes
 exact J105
theorem rolesOf_name:RolesT 141 152:=by
 intro m p kk kn kc w
 have a_block:=as_block_no (t:=141) Zb
 have a_if:=as_if_no (t:=141) Zb
 have a_rest:=as_rest_no (t:=141) Zb
 have a_call:=as_call_no (t:=141) Zb
 have a_name:=as_name_yes
 have a_index:=as_index_no (t:=141) Zb
 have a_field:=as_field_no (t:=141) Zb
 exact J105
theorem rolesOf_index:RolesT 190 152:=by
 intro m p kk kn kc w
 have a_block:=as_block_no (t:=190) Zb
 have a_if:=as_if_no (t:=190) Zb
 have a_rest:=as_rest_no (t:=190) Zb
 have a_call:=as_call_no (t:=190) Zb
 have a_name:=as_name_no (t:=190) Zb
 have a_index:=as_index_yes
 have a_field:=as_field_no (t:=190) Zb
 exact J105
theorem rolesOf_field:RolesT 191 152:=by
 intro m p kk kn kc w
 have a_block:=as_block_no (t:=191) Zb
 have a_if:=as_if_no (t:=191) Zb
 have a_rest:=as_rest_no (t:=191) Zb
 have a_call:=as_call_no (t:=191) Zb
 have a_name:=as_name_no (t:=191) Zb
 have a_index:=as_index_no (t:=191) Zb
 have a_field:=as_field_yes
 exact J105
theorem rolesOf_fn:RolesT 140 280:=by
 intro m p kk kn kc w
 have a_block:=as_block_no (t:=140) Zb
 have a_if:=as_if_no (t:=140) Zb
 have a_rest:=as_rest_no (t:=140) Zb
 have a_call:=as_call_no (t:=140) Zb
 have a_name:=as_name_no (t:=140) Zb
 have a_index:=as_index_no (t:=140) Zb
 have a_field:=as_field_no (t:=140) Zb
 have a_fn:=as_fn_yes
 exact J105
theorem rolesOf_s (mf:MethOk T "loop.example/reed/impl.family" 155)(n0:T≠129)(n1:T≠176)(n2:T≠182)(n3:T≠192)(n4:T≠141)(n5:T≠190)(n6:T≠191)(n7:T≠140):RolesT T 1:=by
 intro m p kk kn kc w
 unfold MethOk at mf
 have a_block:=as_block_no n0
 have a_if:=as_if_no n1
 have a_rest:=as_rest_no n2
 have a_call:=as_call_no n3
 have a_name:=as_name_no n4
 have a_index:=as_index_no n5
 have a_field:=as_field_no n6
 have a_fn:=as_fn_no n7
 go_enter Tryz.func113,Tryz.ntmps113
 go_wp2_with fail
 refine (family_statementHeader m p kk kn kc _).mono ?_
 exact J97
theorem rolesOf_e (mf:MethOk T "loop.example/reed/impl.family" 157)(n0:T≠129)(n1:T≠176)(n2:T≠182)(n3:T≠192)(n4:T≠141)(n5:T≠190)(n6:T≠191)(n7:T≠140):RolesT T 24:=by
 intro m p kk kn kc w
 unfold MethOk at mf
 have a_block:=as_block_no n0
 have a_if:=as_if_no n1
 have a_rest:=as_rest_no n2
 have a_call:=as_call_no n3
 have a_name:=as_name_no n4
 have a_index:=as_index_no n5
 have a_field:=as_field_no n6
 have a_fn:=as_fn_no n7
 go_enter Tryz.func113,Tryz.ntmps113
 go_wp2_with fail
 refine (family_expressionHeader m p kk kn kc _).mono ?_
 exact J97
theorem rolesOf_n (mf:MethOk T "loop.example/reed/impl.family" 158)(n0:T≠129)(n1:T≠176)(n2:T≠182)(n3:T≠192)(n4:T≠141)(n5:T≠190)(n6:T≠191)(n7:T≠140):RolesT T 512:=by
 intro m p kk kn kc w
 unfold MethOk at mf
 have a_block:=as_block_no n0
 have a_if:=as_if_no n1
 have a_rest:=as_rest_no n2
 have a_call:=as_call_no n3
 have a_name:=as_name_no n4
 have a_index:=as_index_no n5
 have a_field:=as_field_no n6
 have a_fn:=as_fn_no n7
 go_enter Tryz.func113,Tryz.ntmps113
 go_wp2_with fail
 refine (family_entryHeader m p kk kn kc _).mono ?_
 exact J97
theorem rolesOf_p (mf:MethOk T "loop.example/reed/impl.family" 152)(n0:T≠129)(n1:T≠176)(n2:T≠182)(n3:T≠192)(n4:T≠141)(n5:T≠190)(n6:T≠191)(n7:T≠140):RolesT T 0:=by
 intro m p kk kn kc w
 unfold MethOk at mf
 have a_block:=as_block_no n0
 have a_if:=as_if_no n1
 have a_rest:=as_rest_no n2
 have a_call:=as_call_no n3
 have a_name:=as_name_no n4
 have a_index:=as_index_no n5
 have a_field:=as_field_no n6
 have a_fn:=as_fn_no n7
 go_enter Tryz.func113,Tryz.ntmps113
 go_wp2_with fail
 refine (family_partHeader m p kk kn kc _).mono ?_
 exact J97
theorem rolesOf_k (k:Int):RolesT (partT k) (roleK k):=by
 rcases kinds_all k with h|h|h|h|h|h|h|h|h|h|h|h|h|h|h|h|h|h|h|h|h|h|h|h|h|h|h|h|h|h|h|h|h|h|h|h|h|⟨h,h2,_⟩
 ·rw[h];exact rolesOf_block
 ·exact J38
 ·exact J38
 ·exact J38
 ·exact J38
 ·exact J38
 ·exact J38
 ·rw[h];exact rolesOf_if
 ·exact J38
 ·exact J38
 ·exact J38
 ·exact J38
 ·exact J38
 ·exact J38
 ·exact J38
 ·exact J38
 ·exact J44
 ·exact J44
 ·exact J44
 ·exact J44
 ·exact J44
 ·exact J44
 ·rw[h];exact rolesOf_name
 ·rw[h];exact rolesOf_rest
 ·exact J44
 ·exact J44
 ·exact J44
 ·exact J44
 ·rw[h];exact rolesOf_index
 ·rw[h];exact rolesOf_field
 ·rw[h];exact rolesOf_call
 ·exact J44
 ·rw[h];exact rolesOf_fn
 ·exact J44
 ·exact J98
 ·exact J98
 ·exact J98
 ·rw[h,h2];exact rolesOf_p (fun v0 v1 v2 v3 v4 v5 v6 v7 v8 v9 v10 v11 w=>by kernel_rfl) Zb Zb Zb Zb Zb Zb Zb Zb
theorem rolesOf_any (x:Option PX)(w:World):Calls Tryz.prog 113 #[pv x] w fun e w'=>e= .returned (.int .i64 (roleO x))/\Onw w w':=by
 cases x with
 |none=>exact rolesOf_nil w
 |some x=>
  obtain ⟨m,p,k⟩:=x
  unfold pv roleO roleP ptT
  simp only
  by_cases h:slimP m.toPD
  ·rw[if_pos h,if_pos h]
   exact rolesOf_k _ m p k _ _ w
  ·rw[if_neg h,if_neg h];exact rolesOf_p (fun v0 v1 v2 v3 v4 v5 v6 v7 v8 v9 v10 v11 w=>by kernel_rfl) Zb Zb Zb Zb Zb Zb Zb Zb m p k _ _ w
end Go.Proofs.YtlibofjbhhdjdaaGreat
namespace Go.Proofs.YtlibofjbhhdjdaaGreat
open Go.RowKit
structure Two (w:World) (a:Nat) (pa:Option Addr) (np pc:Nat) (kind frm tto line op num:Int) (flt:Nat) (text:ByteArray) (na:Option Addr) (nn nc:Nat) (ka:Option Addr) (nk kc:Nat):Prop where
 t0:w.cell? ⟨a,0,none⟩=some (.slice pa np pc)
 c0:w.cell? ⟨a+1,0,none⟩=some (.int .i64 kind)
 c1:w.cell? ⟨a+1,1,none⟩=some (.int .i64 frm)
 c2:w.cell? ⟨a+1,2,none⟩=some (.int .i64 tto)
 c3:w.cell? ⟨a+1,3,none⟩=some (.int .i64 line)
 c4:w.cell? ⟨a+1,4,none⟩=some (.int .i64 op)
 c5:w.cell? ⟨a+1,5,none⟩=some (.int .i64 num)
 c6:w.cell? ⟨a+1,6,none⟩=some (.float .f64 flt)
 c7:w.cell? ⟨a+1,7,none⟩=some (.string text)
 c8:w.cell? ⟨a+1,8,none⟩=some (.slice na nn nc)
 c9:w.cell? ⟨a+1,9,none⟩=some (.slice ka nk kc)
structure Prm (w:World) (np:Nat) (pm:Nat->PM) (pa:Option Addr) (pc:Nat) (m:PM):Prop where
 hn:np<=1048576
 hk:m.nk<=1048576
 hnn:m.nn<=1048576
 htx:m.text.size<=1048576
 hr:∀j,j < m.nk->0<=m.kd j/\m.kd j < np
 hz:∀i,i < m.nn->(m.nm i).size<=1048576
 ht:TM.At w ⟨np,pm,pa,pc⟩
 hm:PM.At w m
theorem Two.onw {w w':World}{a pa np pc kind frm tto line op num flt text na nn nc ka nk kc}(h:Two w a pa np pc kind frm tto line op num flt text na nn nc ka nk kc)(hb:Onw w w'):Two w' a pa np pc kind frm tto line op num flt text na nn nc ka nk kc:=
 ⟨con hb h.t0,con hb h.c0,con hb h.c1,con hb h.c2,con hb h.c3,con hb h.c4,con hb h.c5,con hb h.c6,con hb h.c7,con hb h.c8,con hb h.c9⟩
theorem Two.new (w:World)(pa:Option Addr)(np pc:Nat)(kind frm tto line op num:Int)(flt:Nat)(text:ByteArray)(na:Option Addr)(nn nc:Nat)(ka:Option Addr)(nk kc:Nat):
  Two ((w.alloc (Obj.cells #[.slice pa np pc] 30)).alloc (Obj.cells #[.int .i64 kind,.int .i64 frm,.int .i64 tto,.int .i64 line,.int .i64 op,.int .i64 num,.float .f64 flt,.string text,.slice na nn nc,.slice ka nk kc] 67)) w.heap.size pa np pc kind frm tto line op num flt text na nn nc ka nk kc:=by
 have N1:=(Blk.new w 30 #[.slice pa np pc]).onw (Onw.alloc _ (Obj.cells #[.int .i64 kind,.int .i64 frm,.int .i64 tto,.int .i64 line,.int .i64 op,.int .i64 num,.float .f64 flt,.string text,.slice na nn nc,.slice ka nk kc] 67))
 have N2:=Blk.new (w.alloc (Obj.cells #[.slice pa np pc] 30)) 67 #[.int .i64 kind,.int .i64 frm,.int .i64 tto,.int .i64 line,.int .i64 op,.int .i64 num,.float .f64 flt,.string text,.slice na nn nc,.slice ka nk kc]
 simp only[World.size_alloc] at N2
 constructor
 ·rw[N1.cell];rfl
 all_goals (rw[N2.cell];rfl)
theorem Two.start (w:World)(pa:Option Addr)(np pc:Nat)(kind frm tto line op num:Int)(flt:Nat)(text:ByteArray)(na:Option Addr)(nn nc:Nat)(ka:Option Addr)(nk kc:Nat):
  Onw w ((w.alloc (Obj.cells #[.slice pa np pc] 30)).alloc (Obj.cells #[.int .i64 kind,.int .i64 frm,.int .i64 tto,.int .i64 line,.int .i64 op,.int .i64 num,.float .f64 flt,.string text,.slice na nn nc,.slice ka nk kc] 67)):=
 (Onw.alloc _ _).trans (Onw.alloc _ _)
end Go.Proofs.YtlibofjbhhdjdaaGreat
namespace Go.Proofs.YtlibofjbhhdjdaaGreat
open Go.RowKit
attribute [local go_sem] rsf
variable (w : World) (np : Nat) (pm : Nat -> PM) (pa : Option Addr) (pc : Nat) (F G L O N : Int) (X : Nat) (S : ByteArray) (nn : Nat) (nm : Nat -> ByteArray) (nk : Nat) (kd : Nat -> Int) (na : Option Addr) (nc : Nat) (ka : Option Addr) (kc : Nat)
theorem st11_no (hne:nk≠0)(H:Prm w np pm pa pc ⟨⟨11,F,G,L,O,N,X,S,nn,nm,nk,kd⟩,na,nc,ka,kc⟩):
  Calls Tryz.prog 38 #[.agg #[.slice pa np pc],.agg #[.int .i64 11,.int .i64 F,.int .i64 G,.int .i64 L,.int .i64 O,.int .i64 N,.float .f64 X,.string S,.slice na nn nc,.slice ka nk kc]] w fun e w'=>e= .returned (.bool false)/\Onw w w':=by
 obtain ⟨hn,hk,hnn,htx,hr,hz,ht,hm⟩:=H
 dsimp only at hk hnn htx hr hz
 have T:=Two.new w pa np pc 11 F G L O N X S na nn nc ka nk kc
 have ob:=Two.start w pa np pc 11 F G L O N X S na nn nc ka nk kc
 go_enter Tryz.func38,Tryz.ntmps38
 go_wp2_with fail
 refine (l6bare_any ⟨⟨11,F,G,L,O,N,X,S,nn,nm,nk,kd⟩,na,nc,ka,kc⟩ _ false false false false Zb).mono ?_
 rintro e w1 ⟨rfl,O1⟩
 replace T:=T.onw O1
 replace ob:=ob.trans O1
 clear O1
 obtain ⟨q0,hq0⟩:∃q,bareP (⟨11,F,G,L,O,N,X,S,nn,nm,nk,kd⟩:PD) false false false false=q:=⟨_,rfl⟩
 exact J73
theorem st12_0 (H:Prm w np pm pa pc ⟨⟨12,F,G,L,O,N,X,S,nn,nm,0,kd⟩,na,nc,ka,kc⟩):
  Calls Tryz.prog 38 #[.agg #[.slice pa np pc],.agg #[.int .i64 12,.int .i64 F,.int .i64 G,.int .i64 L,.int .i64 O,.int .i64 N,.float .f64 X,.string S,.slice na nn nc,.slice ka 0 kc]] w fun e w'=>e= .returned (.bool (bareP (⟨12,F,G,L,O,N,X,S,nn,nm,0,kd⟩:PD) false false false false))/\Onw w w':=by
 obtain ⟨hn,hk,hnn,htx,hr,hz,ht,hm⟩:=H
 dsimp only at hk hnn htx hr hz
 have T:=Two.new w pa np pc 12 F G L O N X S na nn nc ka 0 kc
 have ob:=Two.start w pa np pc 12 F G L O N X S na nn nc ka 0 kc
 go_enter Tryz.func38,Tryz.ntmps38
 go_wp2_with fail
 refine (l6bare_any ⟨⟨12,F,G,L,O,N,X,S,nn,nm,0,kd⟩,na,nc,ka,kc⟩ _ false false false false Zb).mono ?_
 rintro e w1 ⟨rfl,O1⟩
 replace T:=T.onw O1
 replace ob:=ob.trans O1
 clear O1
 obtain ⟨q0,hq0⟩:∃q,bareP (⟨12,F,G,L,O,N,X,S,nn,nm,0,kd⟩:PD) false false false false=q:=⟨_,rfl⟩
 exact J27
theorem st12_no (hne:nk≠0)(H:Prm w np pm pa pc ⟨⟨12,F,G,L,O,N,X,S,nn,nm,nk,kd⟩,na,nc,ka,kc⟩):
  Calls Tryz.prog 38 #[.agg #[.slice pa np pc],.agg #[.int .i64 12,.int .i64 F,.int .i64 G,.int .i64 L,.int .i64 O,.int .i64 N,.float .f64 X,.string S,.slice na nn nc,.slice ka nk kc]] w fun e w'=>e= .returned (.bool false)/\Onw w w':=by
 obtain ⟨hn,hk,hnn,htx,hr,hz,ht,hm⟩:=H
 dsimp only at hk hnn htx hr hz
 have T:=Two.new w pa np pc 12 F G L O N X S na nn nc ka nk kc
 have ob:=Two.start w pa np pc 12 F G L O N X S na nn nc ka nk kc
 go_enter Tryz.func38,Tryz.ntmps38
 go_wp2_with fail
 refine (l6bare_any ⟨⟨12,F,G,L,O,N,X,S,nn,nm,nk,kd⟩,na,nc,ka,kc⟩ _ false false false false Zb).mono ?_
 rintro e w1 ⟨rfl,O1⟩
 replace T:=T.onw O1
 replace ob:=ob.trans O1
 clear O1
 obtain ⟨q0,hq0⟩:∃q,bareP (⟨12,F,G,L,O,N,X,S,nn,nm,nk,kd⟩:PD) false false false false=q:=⟨_,rfl⟩
 exact J73
theorem st13_nk (H:Prm w np pm pa pc ⟨⟨13,F,G,L,O,N,X,S,nn,nm,nk,kd⟩,na,nc,ka,kc⟩):
  Calls Tryz.prog 38 #[.agg #[.slice pa np pc],.agg #[.int .i64 13,.int .i64 F,.int .i64 G,.int .i64 L,.int .i64 O,.int .i64 N,.float .f64 X,.string S,.slice na nn nc,.slice ka nk kc]] w fun e w'=>e= .returned (.bool (((bareP (⟨13,F,G,L,O,N,X,S,nn,nm,nk,kd⟩:PD) false false false false)&&exprsP (pdOf pm) (⟨13,F,G,L,O,N,X,S,nn,nm,nk,kd⟩:PD) 0 nk)))/\Onw w w':=by
 obtain ⟨hn,hk,hnn,htx,hr,hz,ht,hm⟩:=H
 dsimp only at hk hnn htx hr hz
 have T:=Two.new w pa np pc 13 F G L O N X S na nn nc ka nk kc
 have ob:=Two.start w pa np pc 13 F G L O N X S na nn nc ka nk kc
 go_enter Tryz.func38,Tryz.ntmps38
 go_wp2_with fail
 refine (l6bare_any ⟨⟨13,F,G,L,O,N,X,S,nn,nm,nk,kd⟩,na,nc,ka,kc⟩ _ false false false false Zb).mono ?_
 rintro e w1 ⟨rfl,O1⟩
 replace T:=T.onw O1
 replace ob:=ob.trans O1
 clear O1
 obtain ⟨q0,hq0⟩:∃q,bareP (⟨13,F,G,L,O,N,X,S,nn,nm,nk,kd⟩:PD) false false false false=q:=⟨_,rfl⟩
 rw[hq0]
 have x0:Hid _:=hq0
 clear hq0
 cases q0
 ·
  exact J10
 ·
  have ⟨t0,c0,c1,c2,c3,c4,c5,c6,c7,c8,c9⟩:=T
  go_wp2_with fail
  clear t0 c0 c1 c2 c3 c4 c5 c6 c7 c8 c9
  refine (l6exprs_any ⟨np,pm,pa,pc⟩ ⟨⟨13,F,G,L,O,N,X,S,nn,nm,nk,kd⟩,na,nc,ka,kc⟩ 0 nk _ hn Zo Zh hk hr (TM.At.onw ob ht) (hm.2.onw ob)).mono ?_
  rintro e w1 ⟨rfl,O1⟩
  replace T:=T.onw O1
  replace ob:=ob.trans O1
  clear O1
  obtain ⟨q1,hq1⟩:∃q,exprsP (pdOf pm) (⟨13,F,G,L,O,N,X,S,nn,nm,nk,kd⟩:PD) 0 nk=q:=⟨_,rfl⟩
  exact J35
theorem st14_2 (H:Prm w np pm pa pc ⟨⟨14,F,G,L,O,N,X,S,nn,nm,2,kd⟩,na,nc,ka,kc⟩):
  Calls Tryz.prog 38 #[.agg #[.slice pa np pc],.agg #[.int .i64 14,.int .i64 F,.int .i64 G,.int .i64 L,.int .i64 O,.int .i64 N,.float .f64 X,.string S,.slice na nn nc,.slice ka 2 kc]] w fun e w'=>e= .returned (.bool (((bareP (⟨14,F,G,L,O,N,X,S,nn,nm,2,kd⟩:PD) false false false true)&&((namedP (⟨14,F,G,L,O,N,X,S,nn,nm,2,kd⟩:PD) 1 2)&&((kidP (pdOf pm) (⟨14,F,G,L,O,N,X,S,nn,nm,2,kd⟩:PD) 0==1)&&(kidP (pdOf pm) (⟨14,F,G,L,O,N,X,S,nn,nm,2,kd⟩:PD) 1==1))))))/\Onw w w':=by
 obtain ⟨hn,hk,hnn,htx,hr,hz,ht,hm⟩:=H
 dsimp only at hk hnn htx hr hz
 have T:=Two.new w pa np pc 14 F G L O N X S na nn nc ka 2 kc
 have ob:=Two.start w pa np pc 14 F G L O N X S na nn nc ka 2 kc
 go_enter Tryz.func38,Tryz.ntmps38
 go_wp2_with fail
 refine (l6bare_any ⟨⟨14,F,G,L,O,N,X,S,nn,nm,2,kd⟩,na,nc,ka,kc⟩ _ false false false true Zb).mono ?_
 rintro e w1 ⟨rfl,O1⟩
 replace T:=T.onw O1
 replace ob:=ob.trans O1
 clear O1
 obtain ⟨q0,hq0⟩:∃q,bareP (⟨14,F,G,L,O,N,X,S,nn,nm,2,kd⟩:PD) false false false true=q:=⟨_,rfl⟩
 rw[hq0]
 have x0:Hid _:=hq0
 clear hq0
 cases q0
 ·
  exact J10
 ·
  have ⟨t0,c0,c1,c2,c3,c4,c5,c6,c7,c8,c9⟩:=T
  go_wp2_with fail
  clear t0 c0 c1 c2 c3 c4 c5 c6 c7 c8 c9
  refine (l6named_any ⟨⟨14,F,G,L,O,N,X,S,nn,nm,2,kd⟩,na,nc,ka,kc⟩ 1 2 _ hnn hz (hm.1.onw ob)).mono ?_
  rintro e w1 ⟨rfl,O1⟩
  replace T:=T.onw O1
  replace ob:=ob.trans O1
  clear O1
  obtain ⟨q1,hq1⟩:∃q,namedP (⟨14,F,G,L,O,N,X,S,nn,nm,2,kd⟩:PD) 1 2=q:=⟨_,rfl⟩
  rw[hq1]
  have x1:Hid _:=hq1
  clear hq1
  cases q1
  ·
   exact J46
  ·
   have ⟨t0,c0,c1,c2,c3,c4,c5,c6,c7,c8,c9⟩:=T
   go_wp2_with fail
   clear t0 c0 c1 c2 c3 c4 c5 c6 c7 c8 c9
   refine (l6kid_any ⟨np,pm,pa,pc⟩ ⟨⟨14,F,G,L,O,N,X,S,nn,nm,2,kd⟩,na,nc,ka,kc⟩ 0 _ hn Zh hk (hr 0 Zo).1 (hr 0 Zo).2 (TM.At.onw ob ht) (hm.2.onw ob)).mono ?_
   rintro e w1 ⟨rfl,O1⟩
   replace T:=T.onw O1
   replace ob:=ob.trans O1
   clear O1
   obtain ⟨q2,hq2⟩:∃q,kidP (pdOf pm) (⟨14,F,G,L,O,N,X,S,nn,nm,2,kd⟩:PD) 0=q:=⟨_,rfl⟩
   rw[hq2]
   by_cases y2:q2=1
   ·have x2:Hid ((kidP (pdOf pm) (⟨14,F,G,L,O,N,X,S,nn,nm,2,kd⟩:PD) 0==1)=true):=J289
    subst y2;clear hq2
    have ⟨t0,c0,c1,c2,c3,c4,c5,c6,c7,c8,c9⟩:=T
    go_wp2_with fail
    clear t0 c0 c1 c2 c3 c4 c5 c6 c7 c8 c9
    refine (l6kid_any ⟨np,pm,pa,pc⟩ ⟨⟨14,F,G,L,O,N,X,S,nn,nm,2,kd⟩,na,nc,ka,kc⟩ 1 _ hn Zh hk (hr 1 Zo).1 (hr 1 Zo).2 (TM.At.onw ob ht) (hm.2.onw ob)).mono ?_
    rintro e w1 ⟨rfl,O1⟩
    replace T:=T.onw O1
    replace ob:=ob.trans O1
    clear O1
    obtain ⟨q3,hq3⟩:∃q,kidP (pdOf pm) (⟨14,F,G,L,O,N,X,S,nn,nm,2,kd⟩:PD) 1=q:=⟨_,rfl⟩
    rw[hq3]
    by_cases y3:q3=1
    ·have x3:Hid ((kidP (pdOf pm) (⟨14,F,G,L,O,N,X,S,nn,nm,2,kd⟩:PD) 1==1)=true):=J315
     subst y3;clear hq3
     exact J68
    ·have x3:Hid ((kidP (pdOf pm) (⟨14,F,G,L,O,N,X,S,nn,nm,2,kd⟩:PD) 1==1)=false):=J293
     clear hq3
     exact J83
   ·have x2:Hid ((kidP (pdOf pm) (⟨14,F,G,L,O,N,X,S,nn,nm,2,kd⟩:PD) 0==1)=false):=J282
    clear hq2
    exact J58
theorem st14_no (hne:nk≠2)(H:Prm w np pm pa pc ⟨⟨14,F,G,L,O,N,X,S,nn,nm,nk,kd⟩,na,nc,ka,kc⟩):
  Calls Tryz.prog 38 #[.agg #[.slice pa np pc],.agg #[.int .i64 14,.int .i64 F,.int .i64 G,.int .i64 L,.int .i64 O,.int .i64 N,.float .f64 X,.string S,.slice na nn nc,.slice ka nk kc]] w fun e w'=>e= .returned (.bool false)/\Onw w w':=by
 obtain ⟨hn,hk,hnn,htx,hr,hz,ht,hm⟩:=H
 dsimp only at hk hnn htx hr hz
 have T:=Two.new w pa np pc 14 F G L O N X S na nn nc ka nk kc
 have ob:=Two.start w pa np pc 14 F G L O N X S na nn nc ka nk kc
 go_enter Tryz.func38,Tryz.ntmps38
 go_wp2_with fail
 refine (l6bare_any ⟨⟨14,F,G,L,O,N,X,S,nn,nm,nk,kd⟩,na,nc,ka,kc⟩ _ false false false true Zb).mono ?_
 rintro e w1 ⟨rfl,O1⟩
 replace T:=T.onw O1
 replace ob:=ob.trans O1
 clear O1
 obtain ⟨q0,hq0⟩:∃q,bareP (⟨14,F,G,L,O,N,X,S,nn,nm,nk,kd⟩:PD) false false false true=q:=⟨_,rfl⟩
 rw[hq0]
 have x0:Hid _:=hq0
 clear hq0
 cases q0
 ·
  exact J29
 ·
  have ⟨t0,c0,c1,c2,c3,c4,c5,c6,c7,c8,c9⟩:=T
  go_wp2_with fail
  clear t0 c0 c1 c2 c3 c4 c5 c6 c7 c8 c9
  refine (l6named_any ⟨⟨14,F,G,L,O,N,X,S,nn,nm,nk,kd⟩,na,nc,ka,kc⟩ 1 2 _ hnn hz (hm.1.onw ob)).mono ?_
  rintro e w1 ⟨rfl,O1⟩
  replace T:=T.onw O1
  replace ob:=ob.trans O1
  clear O1
  obtain ⟨q1,hq1⟩:∃q,namedP (⟨14,F,G,L,O,N,X,S,nn,nm,nk,kd⟩:PD) 1 2=q:=⟨_,rfl⟩
  exact J88
theorem st15_1 (H:Prm w np pm pa pc ⟨⟨15,F,G,L,O,N,X,S,nn,nm,1,kd⟩,na,nc,ka,kc⟩):
  Calls Tryz.prog 38 #[.agg #[.slice pa np pc],.agg #[.int .i64 15,.int .i64 F,.int .i64 G,.int .i64 L,.int .i64 O,.int .i64 N,.float .f64 X,.string S,.slice na nn nc,.slice ka 1 kc]] w fun e w'=>e= .returned (.bool (((bareP (⟨15,F,G,L,O,N,X,S,nn,nm,1,kd⟩:PD) false false false false)&&exprsP (pdOf pm) (⟨15,F,G,L,O,N,X,S,nn,nm,1,kd⟩:PD) 0 1)))/\Onw w w':=by
 obtain ⟨hn,hk,hnn,htx,hr,hz,ht,hm⟩:=H
 dsimp only at hk hnn htx hr hz
 have T:=Two.new w pa np pc 15 F G L O N X S na nn nc ka 1 kc
 have ob:=Two.start w pa np pc 15 F G L O N X S na nn nc ka 1 kc
 go_enter Tryz.func38,Tryz.ntmps38
 go_wp2_with fail
 refine (l6bare_any ⟨⟨15,F,G,L,O,N,X,S,nn,nm,1,kd⟩,na,nc,ka,kc⟩ _ false false false false Zb).mono ?_
 rintro e w1 ⟨rfl,O1⟩
 replace T:=T.onw O1
 replace ob:=ob.trans O1
 clear O1
 obtain ⟨q0,hq0⟩:∃q,bareP (⟨15,F,G,L,O,N,X,S,nn,nm,1,kd⟩:PD) false false false false=q:=⟨_,rfl⟩
 rw[hq0]
 have x0:Hid _:=hq0
 clear hq0
 cases q0
 ·
  exact J10
 ·
  have ⟨t0,c0,c1,c2,c3,c4,c5,c6,c7,c8,c9⟩:=T
  go_wp2_with fail
  clear t0 c0 c1 c2 c3 c4 c5 c6 c7 c8 c9
  refine (l6exprs_any ⟨np,pm,pa,pc⟩ ⟨⟨15,F,G,L,O,N,X,S,nn,nm,1,kd⟩,na,nc,ka,kc⟩ 0 1 _ hn Zo Zh hk hr (TM.At.onw ob ht) (hm.2.onw ob)).mono ?_
  rintro e w1 ⟨rfl,O1⟩
  replace T:=T.onw O1
  replace ob:=ob.trans O1
  clear O1
  obtain ⟨q1,hq1⟩:∃q,exprsP (pdOf pm) (⟨15,F,G,L,O,N,X,S,nn,nm,1,kd⟩:PD) 0 1=q:=⟨_,rfl⟩
  exact J35
end Go.Proofs.YtlibofjbhhdjdaaGreat
namespace Go.Proofs.YtlibofjbhhdjdaaGreat
open Go.RowKit
attribute [local go_sem] rsf
theorem st1_nk (w:World)(np:Nat)(pm:Nat->PM)(pa:Option Addr)(pc:Nat)(F G L O N:Int)(X:Nat)(S:ByteArray)(nn:Nat)(nm:Nat->ByteArray)(nk:Nat)(kd:Nat->Int)(na:Option Addr)(nc:Nat)(ka:Option Addr)(kc:Nat)(hn:np<=1048576)(hk:nk<=1048576)(hr:∀j,j < nk->0<=kd j/\kd j < np)(ht:TM.At w ⟨np,pm,pa,pc⟩)(hm:PM.At w ⟨⟨1,F,G,L,O,N,X,S,nn,nm,nk,kd⟩,na,nc,ka,kc⟩):
  Calls Tryz.prog 38 #[.agg #[.slice pa np pc],.agg #[.int .i64 1,.int .i64 F,.int .i64 G,.int .i64 L,.int .i64 O,.int .i64 N,.float .f64 X,.string S,.slice na nn nc,.slice ka nk kc]] w fun e w'=>e= .returned (.bool (allB (fun j=>statP (kidP (pdOf pm) (⟨1,F,G,L,O,N,X,S,nn,nm,nk,kd⟩:PD) j)) 0 nk&&bareP (⟨1,F,G,L,O,N,X,S,nn,nm,nk,kd⟩:PD) false false false false))/\Onw w w':=by
 have T:=Two.new w pa np pc 1 F G L O N X S na nn nc ka nk kc
 have ob:=Two.start w pa np pc 1 F G L O N X S na nn nc ka nk kc
 have HR:Hid _:=hr
 clear hr
 go_enter Tryz.func38,Tryz.ntmps38
 go_wp2_with fail
 go_loopw [18] (fun x wr=>∃j:Nat,j<=nk/\x= .int .i64 j/\Onw w wr/\Two wr w.heap.size pa np pc 1 F G L O N X S na nn nc ka nk kc/\allB (fun j=>statP (kidP (pdOf pm) (⟨1,F,G,L,O,N,X,S,nn,nm,nk,kd⟩:PD) j)) 0 nk=allB (fun j=>statP (kidP (pdOf pm) (⟨1,F,G,L,O,N,X,S,nn,nm,nk,kd⟩:PD) j)) j (nk-j)) (fun x _=>nk-(intOf x).toNat)
 case atStart=>exact ⟨0,Nat.zero_le _,rfl,ob,T,rfl⟩
 case round=>
  clear ob T
  obtain ⟨j,hj,rfl,ob,T,hq⟩:=hrel
  have HQ:Hid _:=hq
  clear hq
  by_cases hlt:j < nk
  ·obtain ⟨h0,h1⟩:=HR.out j hlt
   obtain ⟨q,hqq⟩:∃q,kidP (pdOf pm) (⟨1,F,G,L,O,N,X,S,nn,nm,nk,kd⟩:PD) j=q:=⟨_,rfl⟩
   have st:Hid (allB (fun j=>statP (kidP (pdOf pm) (⟨1,F,G,L,O,N,X,S,nn,nm,nk,kd⟩:PD) j)) j (nk-j)=(statP q&&allB (fun j=>statP (kidP (pdOf pm) (⟨1,F,G,L,O,N,X,S,nn,nm,nk,kd⟩:PD) j)) (j+1) (nk-(j+1)))):=by
    exact J188
   obtain ⟨t0,c0,c1,c2,c3,c4,c5,c6,c7,c8,c9⟩:=T
   go_wp2_with fail
   have T:Two _ _ _ _ _ _ _ _ _ _ _ _ _ _ _ _ _ _ _:=⟨t0,c0,c1,c2,c3,c4,c5,c6,c7,c8,c9⟩
   clear t0 c0 c1 c2 c3 c4 c5 c6 c7 c8 c9
   refine (l6kid_any ⟨np,pm,pa,pc⟩ ⟨⟨1,F,G,L,O,N,X,S,nn,nm,nk,kd⟩,na,nc,ka,kc⟩ j _ hn hlt hk h0 h1 (TM.At.onw ob ht) (hm.2.onw ob)).mono ?_
   rintro e w1 ⟨rfl,O1⟩
   replace T:=T.onw O1
   replace ob:=ob.trans O1
   clear O1
   rw[hqq]
   go_wp2_with fail
   refine (l6stat_any q _).mono ?_
   rintro e w2 ⟨rfl,rfl⟩
   cases hx:statP q
   ·exact J128
   ·exact J91
  ·have st:Hid (allB (fun j=>statP (kidP (pdOf pm) (⟨1,F,G,L,O,N,X,S,nn,nm,nk,kd⟩:PD) j)) j (nk-j)=true):=by
    exact J127
   obtain ⟨t0,c0,c1,c2,c3,c4,c5,c6,c7,c8,c9⟩:=T
   go_wp2_with fail
   refine (l6bare_any ⟨⟨1,F,G,L,O,N,X,S,nn,nm,nk,kd⟩,na,nc,ka,kc⟩ _ false false false false Zb).mono ?_
   exact J145
theorem st5_lo (w:World)(np:Nat)(pa:Option Addr)(pc:Nat)(F G L O N:Int)(X:Nat)(S:ByteArray)(nn:Nat)(nm:Nat->ByteArray)(nk:Nat)(kd:Nat->Int)(na:Option Addr)(nc:Nat)(ka:Option Addr)(kc:Nat)(h1:N < 1):
  Calls Tryz.prog 38 #[.agg #[.slice pa np pc],.agg #[.int .i64 5,.int .i64 F,.int .i64 G,.int .i64 L,.int .i64 O,.int .i64 N,.float .f64 X,.string S,.slice na nn nc,.slice ka nk kc]] w fun e w'=>e= .returned (.bool false)/\Onw w w':=by
 exact J61
theorem st5_hi (w:World)(np:Nat)(pa:Option Addr)(pc:Nat)(F G L O N:Int)(X:Nat)(S:ByteArray)(nn:Nat)(nm:Nat->ByteArray)(nk:Nat)(kd:Nat->Int)(na:Option Addr)(nc:Nat)(ka:Option Addr)(kc:Nat)(h1:1<=N)(h2:(nk:Int)<=N):
  Calls Tryz.prog 38 #[.agg #[.slice pa np pc],.agg #[.int .i64 5,.int .i64 F,.int .i64 G,.int .i64 L,.int .i64 O,.int .i64 N,.float .f64 X,.string S,.slice na nn nc,.slice ka nk kc]] w fun e w'=>e= .returned (.bool false)/\Onw w w':=by
 exact J61
theorem st5_in (w:World)(np:Nat)(pm:Nat->PM)(pa:Option Addr)(pc:Nat)(F G L O:Int)(X:Nat)(S:ByteArray)(nn:Nat)(nm:Nat->ByteArray)(s nk:Nat)(kd:Nat->Int)(na:Option Addr)(nc:Nat)(ka:Option Addr)(kc:Nat)(hn:np<=1048576)(hk:nk<=1048576)(hs:1<=s)(hsk:s < nk)(hr:∀j,j < nk->0<=kd j/\kd j < np)(ht:TM.At w ⟨np,pm,pa,pc⟩)(hm:PM.At w ⟨⟨5,F,G,L,O,(s:Int),X,S,nn,nm,nk,kd⟩,na,nc,ka,kc⟩):
  Calls Tryz.prog 38 #[.agg #[.slice pa np pc],.agg #[.int .i64 5,.int .i64 F,.int .i64 G,.int .i64 L,.int .i64 O,.int .i64 s,.float .f64 X,.string S,.slice na nn nc,.slice ka nk kc]] w fun e w'=>e= .returned (.bool (bareP (⟨5,F,G,L,O,(s:Int),X,S,nn,nm,nk,kd⟩:PD) false true false false&&(allB (fun j=>targetP (kidP (pdOf pm) (⟨5,F,G,L,O,(s:Int),X,S,nn,nm,nk,kd⟩:PD) j)) 0 s&&exprsP (pdOf pm) (⟨5,F,G,L,O,(s:Int),X,S,nn,nm,nk,kd⟩:PD) s nk)))/\Onw w w':=by
 have T:=Two.new w pa np pc 5 F G L O s X S na nn nc ka nk kc
 have ob:=Two.start w pa np pc 5 F G L O s X S na nn nc ka nk kc
 have HR:Hid _:=hr
 clear hr
 go_enter Tryz.func38,Tryz.ntmps38
 go_wp2_with fail
 refine (l6bare_any ⟨⟨5,F,G,L,O,(s:Int),X,S,nn,nm,nk,kd⟩,na,nc,ka,kc⟩ _ false true false false Zb).mono ?_
 rintro e w1 ⟨rfl,O1⟩
 replace T:=T.onw O1
 replace ob:=ob.trans O1
 clear O1
 obtain ⟨q0,hq0⟩:∃q,bareP (⟨5,F,G,L,O,(s:Int),X,S,nn,nm,nk,kd⟩:PD) false true false false=q:=⟨_,rfl⟩
 rw[hq0]
 have x0:Hid _:=hq0
 clear hq0
 obtain ⟨t0,c0,c1,c2,c3,c4,c5,c6,c7,c8,c9⟩:=T
 cases q0
 ·exact J157
 ·go_wp2_with fail
  have T:Two _ _ _ _ _ _ _ _ _ _ _ _ _ _ _ _ _ _ _:=⟨t0,c0,c1,c2,c3,c4,c5,c6,c7,c8,c9⟩
  clear t0 c0 c1 c2 c3 c4 c5 c6 c7 c8 c9
  simp only[show decide ((s:Int) < 1)=false from decide_eq_false Zo,show decide (nk<=s)=false from decide_eq_false Zo,Bool.or_false]
  go_loopw [7] (fun x wr=>∃j:Nat,j<=s/\x= .int .i64 j/\Onw w wr/\Two wr w.heap.size pa np pc 5 F G L O s X S na nn nc ka nk kc/\allB (fun j=>targetP (kidP (pdOf pm) (⟨5,F,G,L,O,(s:Int),X,S,nn,nm,nk,kd⟩:PD) j)) 0 s=allB (fun j=>targetP (kidP (pdOf pm) (⟨5,F,G,L,O,(s:Int),X,S,nn,nm,nk,kd⟩:PD) j)) j (s-j)) (fun x _=>s-(intOf x).toNat)
  case atStart=>exact ⟨0,Nat.zero_le _,rfl,ob,T,rfl⟩
  case round=>
   clear ob T
   obtain ⟨j,hj,rfl,ob,T,hq⟩:=hrel
   have HQ:Hid _:=hq
   clear hq
   by_cases hlt:j < s
   ·obtain ⟨h0,h1⟩:=HR.out j Zo
    obtain ⟨q,hqq⟩:∃q,kidP (pdOf pm) (⟨5,F,G,L,O,(s:Int),X,S,nn,nm,nk,kd⟩:PD) j=q:=⟨_,rfl⟩
    have st:Hid (allB (fun j=>targetP (kidP (pdOf pm) (⟨5,F,G,L,O,(s:Int),X,S,nn,nm,nk,kd⟩:PD) j)) j (s-j)=(targetP q&&allB (fun j=>targetP (kidP (pdOf pm) (⟨5,F,G,L,O,(s:Int),X,S,nn,nm,nk,kd⟩:PD) j)) (j+1) (s-(j+1)))):=by
     show _=_
     rw[show s-j=(s-(j+1))+1 from by omega,<-hqq];rfl
    obtain ⟨t0,c0,c1,c2,c3,c4,c5,c6,c7,c8,c9⟩:=T
    go_wp2_with fail
    have T:Two _ _ _ _ _ _ _ _ _ _ _ _ _ _ _ _ _ _ _:=⟨t0,c0,c1,c2,c3,c4,c5,c6,c7,c8,c9⟩
    clear t0 c0 c1 c2 c3 c4 c5 c6 c7 c8 c9
    refine (l6kid_any ⟨np,pm,pa,pc⟩ ⟨⟨5,F,G,L,O,(s:Int),X,S,nn,nm,nk,kd⟩,na,nc,ka,kc⟩ j _ hn Zh hk h0 h1 (TM.At.onw ob ht) (hm.2.onw ob)).mono ?_
    rintro e w1 ⟨rfl,O1⟩
    replace T:=T.onw O1
    replace ob:=ob.trans O1
    clear O1
    rw[hqq]
    go_wp2_with fail
    refine (l6target_any q _).mono ?_
    rintro e w2 ⟨rfl,rfl⟩
    cases hx:targetP q
    ·go_wp2_with fail
     go_ret
     exact ⟨rtb (by rw[x0.out,HQ.out,st.out,hx];rfl),ob⟩
    ·exact J91
   ·have st:Hid (allB (fun j=>targetP (kidP (pdOf pm) (⟨5,F,G,L,O,(s:Int),X,S,nn,nm,nk,kd⟩:PD) j)) j (s-j)=true):=by
     show _=_
     rw[show s-j=0 from by omega];rfl
    obtain ⟨t0,c0,c1,c2,c3,c4,c5,c6,c7,c8,c9⟩:=T
    go_wp2_with fail
    refine (l6exprs_any ⟨np,pm,pa,pc⟩ ⟨⟨5,F,G,L,O,(s:Int),X,S,nn,nm,nk,kd⟩,na,nc,ka,kc⟩ s nk _ hn Zo Zh hk HR.out (TM.At.onw ob ht) (hm.2.onw ob)).mono ?_
    rintro e w1 ⟨rfl,O1⟩
    replace ob:=ob.trans O1
    go_wp2_with fail
    go_ret
    exact ⟨rtb (by rw[x0.out,HQ.out,st.out];rfl),ob⟩
end Go.Proofs.YtlibofjbhhdjdaaGreat
