import Derived.Test.YtlibofjbhhdjdaaGreatQ
import Derived.Test.YtlibofjbhhdjdaaGreatP31
set_option linter.unusedSimpArgs false
set_option maxRecDepth 100000
set_option maxHeartbeats 16000000
namespace Go.Proofs.YtlibofjbhhdjdaaGreat
open Go.RowKit
attribute [local go_sem] rsf
theorem compare_ss (ka na:Int)(fa:Nat)(sa:ByteArray)(ra:Int)(kb nb:Int)(fb:Nat)(sb:ByteArray)(rb:Int)(w:World)(_ha4:(ka==4)=true)(_ha2:(ka==2)=false)(_ha3:(ka==3)=false)(_hb4:(kb==4)=true)(_hb2:(kb==2)=false)(_hb3:(kb==3)=false):Calls Tryz.prog 123 #[.agg #[.int .i64 ka,.int .i64 na,.float .f64 fa,.string sa,.int .i64 ra],.agg #[.int .i64 kb,.int .i64 nb,.float .f64 fb,.string sb,.int .i64 rb]] w fun e w'=>RetI e/\Onw w w':=by
 go_enter Tryz.func123,Tryz.ntmps123
 go_wp2_with fail
 have T0:Hid (TwoV w _ #[.int .i64 ka,.int .i64 na,.float .f64 fa,.string sa,.int .i64 ra] #[.int .i64 kb,.int .i64 nb,.float .f64 fb,.string sb,.int .i64 rb]):=TwoV.start w _ _
 generalize (w.alloc (Obj.cells #[.int .i64 ka,.int .i64 na,.float .f64 fa,.string sa,.int .i64 ra] 153)).alloc (Obj.cells #[.int .i64 kb,.int .i64 nb,.float .f64 fb,.string sb,.int .i64 rb] 153)=w0' at*
 refine (valueOk_any ka na fa sa ra _).mono ?_
 rintro e w1 ⟨⟨x,rfl,hx⟩,o1⟩
 have T1:Hid _:=T0.out.onw o1
 clear o1
 have ac0:=Blk.at_ T1.out.a 0 rfl
 have bc0:=Blk.at_ T1.out.b 0 rfl
 have ac1:=Blk.at_ T1.out.a 1 rfl
 have bc1:=Blk.at_ T1.out.b 1 rfl
 have ac2:=Blk.at_ T1.out.a 2 rfl
 have bc2:=Blk.at_ T1.out.b 2 rfl
 have ac3:=Blk.at_ T1.out.a 3 rfl
 have bc3:=Blk.at_ T1.out.b 3 rfl
 have ac4:=Blk.at_ T1.out.a 4 rfl
 have bc4:=Blk.at_ T1.out.b 4 rfl
 have az:=Blk.lt T1.out.a
 have bz:=Blk.lt T1.out.b
 have HX:Hid _:=hx
 clear hx
 cases x
 ·exact J121
 have sa1:sa.size<=4000:=HX.out rfl
 go_wp2_with fail
 clear ac0 bc0 ac1 bc1 ac2 bc2 ac3 bc3 ac4 bc4 az bz
 refine (valueOk_any kb nb fb sb rb _).mono ?_
 rintro e w2 ⟨⟨y,rfl,hy⟩,o2⟩
 have T2:Hid _:=T1.out.onw o2
 clear o2
 have ac0:=Blk.at_ T2.out.a 0 rfl
 have bc0:=Blk.at_ T2.out.b 0 rfl
 have ac1:=Blk.at_ T2.out.a 1 rfl
 have bc1:=Blk.at_ T2.out.b 1 rfl
 have ac2:=Blk.at_ T2.out.a 2 rfl
 have bc2:=Blk.at_ T2.out.b 2 rfl
 have ac3:=Blk.at_ T2.out.a 3 rfl
 have bc3:=Blk.at_ T2.out.b 3 rfl
 have ac4:=Blk.at_ T2.out.a 4 rfl
 have bc4:=Blk.at_ T2.out.b 4 rfl
 have az:=Blk.lt T2.out.a
 have bz:=Blk.lt T2.out.b
 have HY:Hid _:=hy
 clear hy
 cases y
 ·exact J122
 have sb1:sb.size<=4000:=HY.out rfl
 go_wp2_with fail
 clear ac0 bc0 ac1 bc1 ac2 bc2 ac3 bc3 ac4 bc4 az bz
 refine (l1strings_any sa sb _ Zo Zo).mono ?_
 rintro e w3 ⟨⟨c,rfl⟩,o3⟩
 have T3:Hid _:=T2.out.onw o3
 clear o3
 have ac0:=Blk.at_ T3.out.a 0 rfl
 have bc0:=Blk.at_ T3.out.b 0 rfl
 have ac1:=Blk.at_ T3.out.a 1 rfl
 have bc1:=Blk.at_ T3.out.b 1 rfl
 have ac2:=Blk.at_ T3.out.a 2 rfl
 have bc2:=Blk.at_ T3.out.b 2 rfl
 have ac3:=Blk.at_ T3.out.a 3 rfl
 have bc3:=Blk.at_ T3.out.b 3 rfl
 have ac4:=Blk.at_ T3.out.a 4 rfl
 have bc4:=Blk.at_ T3.out.b 4 rfl
 have az:=Blk.lt T3.out.a
 have bz:=Blk.lt T3.out.b
 exact J196
theorem compare_si (ka na:Int)(fa:Nat)(sa:ByteArray)(ra:Int)(kb nb:Int)(fb:Nat)(sb:ByteArray)(rb:Int)(w:World)(_ha4:(ka==4)=true)(_ha2:(ka==2)=false)(_ha3:(ka==3)=false)(_hb4:(kb==4)=false)(_hb2:(kb==2)=true)(_hb3:(kb==3)=false):Calls Tryz.prog 123 #[.agg #[.int .i64 ka,.int .i64 na,.float .f64 fa,.string sa,.int .i64 ra],.agg #[.int .i64 kb,.int .i64 nb,.float .f64 fb,.string sb,.int .i64 rb]] w fun e w'=>RetI e/\Onw w w':=by
 exact J6
theorem compare_sf (ka na:Int)(fa:Nat)(sa:ByteArray)(ra:Int)(kb nb:Int)(fb:Nat)(sb:ByteArray)(rb:Int)(w:World)(_ha4:(ka==4)=true)(_ha2:(ka==2)=false)(_ha3:(ka==3)=false)(_hb4:(kb==4)=false)(_hb2:(kb==2)=false)(_hb3:(kb==3)=true):Calls Tryz.prog 123 #[.agg #[.int .i64 ka,.int .i64 na,.float .f64 fa,.string sa,.int .i64 ra],.agg #[.int .i64 kb,.int .i64 nb,.float .f64 fb,.string sb,.int .i64 rb]] w fun e w'=>RetI e/\Onw w w':=by
 exact J6
theorem compare_so (ka na:Int)(fa:Nat)(sa:ByteArray)(ra:Int)(kb nb:Int)(fb:Nat)(sb:ByteArray)(rb:Int)(w:World)(_ha4:(ka==4)=true)(_ha2:(ka==2)=false)(_ha3:(ka==3)=false)(_hb4:(kb==4)=false)(_hb2:(kb==2)=false)(_hb3:(kb==3)=false):Calls Tryz.prog 123 #[.agg #[.int .i64 ka,.int .i64 na,.float .f64 fa,.string sa,.int .i64 ra],.agg #[.int .i64 kb,.int .i64 nb,.float .f64 fb,.string sb,.int .i64 rb]] w fun e w'=>RetI e/\Onw w w':=by
 exact J6
theorem compare_os (ka na:Int)(fa:Nat)(sa:ByteArray)(ra:Int)(kb nb:Int)(fb:Nat)(sb:ByteArray)(rb:Int)(w:World)(_ha4:(ka==4)=false)(_ha2:(ka==2)=false)(_ha3:(ka==3)=false)(_hb4:(kb==4)=true)(_hb2:(kb==2)=false)(_hb3:(kb==3)=false):Calls Tryz.prog 123 #[.agg #[.int .i64 ka,.int .i64 na,.float .f64 fa,.string sa,.int .i64 ra],.agg #[.int .i64 kb,.int .i64 nb,.float .f64 fb,.string sb,.int .i64 rb]] w fun e w'=>RetI e/\Onw w w':=by
 exact J6
theorem compare_oi (ka na:Int)(fa:Nat)(sa:ByteArray)(ra:Int)(kb nb:Int)(fb:Nat)(sb:ByteArray)(rb:Int)(w:World)(_ha4:(ka==4)=false)(_ha2:(ka==2)=false)(_ha3:(ka==3)=false)(_hb4:(kb==4)=false)(_hb2:(kb==2)=true)(_hb3:(kb==3)=false):Calls Tryz.prog 123 #[.agg #[.int .i64 ka,.int .i64 na,.float .f64 fa,.string sa,.int .i64 ra],.agg #[.int .i64 kb,.int .i64 nb,.float .f64 fb,.string sb,.int .i64 rb]] w fun e w'=>RetI e/\Onw w w':=by
 exact J6
theorem compare_of (ka na:Int)(fa:Nat)(sa:ByteArray)(ra:Int)(kb nb:Int)(fb:Nat)(sb:ByteArray)(rb:Int)(w:World)(_ha4:(ka==4)=false)(_ha2:(ka==2)=false)(_ha3:(ka==3)=false)(_hb4:(kb==4)=false)(_hb2:(kb==2)=false)(_hb3:(kb==3)=true):Calls Tryz.prog 123 #[.agg #[.int .i64 ka,.int .i64 na,.float .f64 fa,.string sa,.int .i64 ra],.agg #[.int .i64 kb,.int .i64 nb,.float .f64 fb,.string sb,.int .i64 rb]] w fun e w'=>RetI e/\Onw w w':=by
 exact J6
theorem compare_oo (ka na:Int)(fa:Nat)(sa:ByteArray)(ra:Int)(kb nb:Int)(fb:Nat)(sb:ByteArray)(rb:Int)(w:World)(_ha4:(ka==4)=false)(_ha2:(ka==2)=false)(_ha3:(ka==3)=false)(_hb4:(kb==4)=false)(_hb2:(kb==2)=false)(_hb3:(kb==3)=false):Calls Tryz.prog 123 #[.agg #[.int .i64 ka,.int .i64 na,.float .f64 fa,.string sa,.int .i64 ra],.agg #[.int .i64 kb,.int .i64 nb,.float .f64 fb,.string sb,.int .i64 rb]] w fun e w'=>RetI e/\Onw w w':=by
 exact J6
theorem compare_ii (ka na:Int)(fa:Nat)(sa:ByteArray)(ra:Int)(kb nb:Int)(fb:Nat)(sb:ByteArray)(rb:Int)(w:World)(_ha4:(ka==4)=false)(_ha2:(ka==2)=true)(_ha3:(ka==3)=false)(_hb4:(kb==4)=false)(_hb2:(kb==2)=true)(_hb3:(kb==3)=false):Calls Tryz.prog 123 #[.agg #[.int .i64 ka,.int .i64 na,.float .f64 fa,.string sa,.int .i64 ra],.agg #[.int .i64 kb,.int .i64 nb,.float .f64 fb,.string sb,.int .i64 rb]] w fun e w'=>RetI e/\Onw w w':=by
 exact J9
theorem compare_if (ka na:Int)(fa:Nat)(sa:ByteArray)(ra:Int)(kb nb:Int)(fb:Nat)(sb:ByteArray)(rb:Int)(w:World)(_ha4:(ka==4)=false)(_ha2:(ka==2)=true)(_ha3:(ka==3)=false)(_hb4:(kb==4)=false)(_hb2:(kb==2)=false)(_hb3:(kb==3)=true):Calls Tryz.prog 123 #[.agg #[.int .i64 ka,.int .i64 na,.float .f64 fa,.string sa,.int .i64 ra],.agg #[.int .i64 kb,.int .i64 nb,.float .f64 fb,.string sb,.int .i64 rb]] w fun e w'=>RetI e/\Onw w w':=by
 go_enter Tryz.func123,Tryz.ntmps123
 go_wp2_with fail
 have T0:Hid (TwoV w _ #[.int .i64 ka,.int .i64 na,.float .f64 fa,.string sa,.int .i64 ra] #[.int .i64 kb,.int .i64 nb,.float .f64 fb,.string sb,.int .i64 rb]):=TwoV.start w _ _
 generalize (w.alloc (Obj.cells #[.int .i64 ka,.int .i64 na,.float .f64 fa,.string sa,.int .i64 ra] 153)).alloc (Obj.cells #[.int .i64 kb,.int .i64 nb,.float .f64 fb,.string sb,.int .i64 rb] 153)=w0' at*
 refine (valueOk_any ka na fa sa ra _).mono ?_
 rintro e w1 ⟨⟨x,rfl,hx⟩,o1⟩
 have T1:Hid _:=T0.out.onw o1
 clear o1
 have ac0:=Blk.at_ T1.out.a 0 rfl
 have bc0:=Blk.at_ T1.out.b 0 rfl
 have ac1:=Blk.at_ T1.out.a 1 rfl
 have bc1:=Blk.at_ T1.out.b 1 rfl
 have ac2:=Blk.at_ T1.out.a 2 rfl
 have bc2:=Blk.at_ T1.out.b 2 rfl
 have ac3:=Blk.at_ T1.out.a 3 rfl
 have bc3:=Blk.at_ T1.out.b 3 rfl
 have ac4:=Blk.at_ T1.out.a 4 rfl
 have bc4:=Blk.at_ T1.out.b 4 rfl
 have az:=Blk.lt T1.out.a
 have bz:=Blk.lt T1.out.b
 have HX:Hid _:=hx
 clear hx
 cases x
 ·exact J121
 have sa1:sa.size<=4000:=HX.out rfl
 go_wp2_with fail
 clear ac0 bc0 ac1 bc1 ac2 bc2 ac3 bc3 ac4 bc4 az bz
 refine (valueOk_any kb nb fb sb rb _).mono ?_
 rintro e w2 ⟨⟨y,rfl,hy⟩,o2⟩
 have T2:Hid _:=T1.out.onw o2
 clear o2
 have ac0:=Blk.at_ T2.out.a 0 rfl
 have bc0:=Blk.at_ T2.out.b 0 rfl
 have ac1:=Blk.at_ T2.out.a 1 rfl
 have bc1:=Blk.at_ T2.out.b 1 rfl
 have ac2:=Blk.at_ T2.out.a 2 rfl
 have bc2:=Blk.at_ T2.out.b 2 rfl
 have ac3:=Blk.at_ T2.out.a 3 rfl
 have bc3:=Blk.at_ T2.out.b 3 rfl
 have ac4:=Blk.at_ T2.out.a 4 rfl
 have bc4:=Blk.at_ T2.out.b 4 rfl
 have az:=Blk.lt T2.out.a
 have bz:=Blk.lt T2.out.b
 have HY:Hid _:=hy
 clear hy
 cases y
 ·exact J122
 have sb1:sb.size<=4000:=HY.out rfl
 go_wp2_with fail
 clear ac0 bc0 ac1 bc1 ac2 bc2 ac3 bc3 ac4 bc4 az bz
 refine (l1num_any ka na fa sa ra _).mono ?_
 rintro e w3 ⟨rfl,o3⟩
 have T3:Hid _:=T2.out.onw o3
 clear o3
 have ac0:=Blk.at_ T3.out.a 0 rfl
 have bc0:=Blk.at_ T3.out.b 0 rfl
 have ac1:=Blk.at_ T3.out.a 1 rfl
 have bc1:=Blk.at_ T3.out.b 1 rfl
 have ac2:=Blk.at_ T3.out.a 2 rfl
 have bc2:=Blk.at_ T3.out.b 2 rfl
 have ac3:=Blk.at_ T3.out.a 3 rfl
 have bc3:=Blk.at_ T3.out.b 3 rfl
 have ac4:=Blk.at_ T3.out.a 4 rfl
 have bc4:=Blk.at_ T3.out.b 4 rfl
 have az:=Blk.lt T3.out.a
 have bz:=Blk.lt T3.out.b
 go_wp2_with fail
 clear ac0 bc0 ac1 bc1 ac2 bc2 ac3 bc3 ac4 bc4 az bz
 refine (l1num_any kb nb fb sb rb _).mono ?_
 rintro e w4 ⟨rfl,o4⟩
 have T4:Hid _:=T3.out.onw o4
 clear o4
 have ac0:=Blk.at_ T4.out.a 0 rfl
 have bc0:=Blk.at_ T4.out.b 0 rfl
 have ac1:=Blk.at_ T4.out.a 1 rfl
 have bc1:=Blk.at_ T4.out.b 1 rfl
 have ac2:=Blk.at_ T4.out.a 2 rfl
 have bc2:=Blk.at_ T4.out.b 2 rfl
 have ac3:=Blk.at_ T4.out.a 3 rfl
 have bc3:=Blk.at_ T4.out.b 3 rfl
 have ac4:=Blk.at_ T4.out.a 4 rfl
 have bc4:=Blk.at_ T4.out.b 4 rfl
 have az:=Blk.lt T4.out.a
 have bz:=Blk.lt T4.out.b
 go_wp2_with fail
 clear ac0 bc0 ac1 bc1 ac2 bc2 ac3 bc3 ac4 bc4 az bz
 refine (l1nan_any fb _).mono ?_
 rintro e w5 ⟨rfl,o5⟩
 have T5:Hid _:=T4.out.onw o5
 clear o5
 have ac0:=Blk.at_ T5.out.a 0 rfl
 have bc0:=Blk.at_ T5.out.b 0 rfl
 have ac1:=Blk.at_ T5.out.a 1 rfl
 have bc1:=Blk.at_ T5.out.b 1 rfl
 have ac2:=Blk.at_ T5.out.a 2 rfl
 have bc2:=Blk.at_ T5.out.b 2 rfl
 have ac3:=Blk.at_ T5.out.a 3 rfl
 have bc3:=Blk.at_ T5.out.b 3 rfl
 have ac4:=Blk.at_ T5.out.a 4 rfl
 have bc4:=Blk.at_ T5.out.b 4 rfl
 have az:=Blk.lt T5.out.a
 have bz:=Blk.lt T5.out.b
 cases hn2:(FloatKind.f64.format.order fb fb !=some .eq)
 rotate_left
 ·exact J124
 go_wp2_with fail
 clear ac0 bc0 ac1 bc1 ac2 bc2 ac3 bc3 ac4 bc4 az bz
 refine (l1intflt_any na fb _).mono ?_
 exact J70
theorem compare_fi (ka na:Int)(fa:Nat)(sa:ByteArray)(ra:Int)(kb nb:Int)(fb:Nat)(sb:ByteArray)(rb:Int)(w:World)(_ha4:(ka==4)=false)(_ha2:(ka==2)=false)(_ha3:(ka==3)=true)(_hb4:(kb==4)=false)(_hb2:(kb==2)=true)(_hb3:(kb==3)=false):Calls Tryz.prog 123 #[.agg #[.int .i64 ka,.int .i64 na,.float .f64 fa,.string sa,.int .i64 ra],.agg #[.int .i64 kb,.int .i64 nb,.float .f64 fb,.string sb,.int .i64 rb]] w fun e w'=>RetI e/\Onw w w':=by
 go_enter Tryz.func123,Tryz.ntmps123
 go_wp2_with fail
 have T0:Hid (TwoV w _ #[.int .i64 ka,.int .i64 na,.float .f64 fa,.string sa,.int .i64 ra] #[.int .i64 kb,.int .i64 nb,.float .f64 fb,.string sb,.int .i64 rb]):=TwoV.start w _ _
 generalize (w.alloc (Obj.cells #[.int .i64 ka,.int .i64 na,.float .f64 fa,.string sa,.int .i64 ra] 153)).alloc (Obj.cells #[.int .i64 kb,.int .i64 nb,.float .f64 fb,.string sb,.int .i64 rb] 153)=w0' at*
 refine (valueOk_any ka na fa sa ra _).mono ?_
 rintro e w1 ⟨⟨x,rfl,hx⟩,o1⟩
 have T1:Hid _:=T0.out.onw o1
 clear o1
 have ac0:=Blk.at_ T1.out.a 0 rfl
 have bc0:=Blk.at_ T1.out.b 0 rfl
 have ac1:=Blk.at_ T1.out.a 1 rfl
 have bc1:=Blk.at_ T1.out.b 1 rfl
 have ac2:=Blk.at_ T1.out.a 2 rfl
 have bc2:=Blk.at_ T1.out.b 2 rfl
 have ac3:=Blk.at_ T1.out.a 3 rfl
 have bc3:=Blk.at_ T1.out.b 3 rfl
 have ac4:=Blk.at_ T1.out.a 4 rfl
 have bc4:=Blk.at_ T1.out.b 4 rfl
 have az:=Blk.lt T1.out.a
 have bz:=Blk.lt T1.out.b
 have HX:Hid _:=hx
 clear hx
 cases x
 ·exact J121
 have sa1:sa.size<=4000:=HX.out rfl
 go_wp2_with fail
 clear ac0 bc0 ac1 bc1 ac2 bc2 ac3 bc3 ac4 bc4 az bz
 refine (valueOk_any kb nb fb sb rb _).mono ?_
 rintro e w2 ⟨⟨y,rfl,hy⟩,o2⟩
 have T2:Hid _:=T1.out.onw o2
 clear o2
 have ac0:=Blk.at_ T2.out.a 0 rfl
 have bc0:=Blk.at_ T2.out.b 0 rfl
 have ac1:=Blk.at_ T2.out.a 1 rfl
 have bc1:=Blk.at_ T2.out.b 1 rfl
 have ac2:=Blk.at_ T2.out.a 2 rfl
 have bc2:=Blk.at_ T2.out.b 2 rfl
 have ac3:=Blk.at_ T2.out.a 3 rfl
 have bc3:=Blk.at_ T2.out.b 3 rfl
 have ac4:=Blk.at_ T2.out.a 4 rfl
 have bc4:=Blk.at_ T2.out.b 4 rfl
 have az:=Blk.lt T2.out.a
 have bz:=Blk.lt T2.out.b
 have HY:Hid _:=hy
 clear hy
 cases y
 ·exact J122
 have sb1:sb.size<=4000:=HY.out rfl
 go_wp2_with fail
 clear ac0 bc0 ac1 bc1 ac2 bc2 ac3 bc3 ac4 bc4 az bz
 refine (l1num_any ka na fa sa ra _).mono ?_
 rintro e w3 ⟨rfl,o3⟩
 have T3:Hid _:=T2.out.onw o3
 clear o3
 have ac0:=Blk.at_ T3.out.a 0 rfl
 have bc0:=Blk.at_ T3.out.b 0 rfl
 have ac1:=Blk.at_ T3.out.a 1 rfl
 have bc1:=Blk.at_ T3.out.b 1 rfl
 have ac2:=Blk.at_ T3.out.a 2 rfl
 have bc2:=Blk.at_ T3.out.b 2 rfl
 have ac3:=Blk.at_ T3.out.a 3 rfl
 have bc3:=Blk.at_ T3.out.b 3 rfl
 have ac4:=Blk.at_ T3.out.a 4 rfl
 have bc4:=Blk.at_ T3.out.b 4 rfl
 have az:=Blk.lt T3.out.a
 have bz:=Blk.lt T3.out.b
 go_wp2_with fail
 clear ac0 bc0 ac1 bc1 ac2 bc2 ac3 bc3 ac4 bc4 az bz
 refine (l1num_any kb nb fb sb rb _).mono ?_
 rintro e w4 ⟨rfl,o4⟩
 have T4:Hid _:=T3.out.onw o4
 clear o4
 have ac0:=Blk.at_ T4.out.a 0 rfl
 have bc0:=Blk.at_ T4.out.b 0 rfl
 have ac1:=Blk.at_ T4.out.a 1 rfl
 have bc1:=Blk.at_ T4.out.b 1 rfl
 have ac2:=Blk.at_ T4.out.a 2 rfl
 have bc2:=Blk.at_ T4.out.b 2 rfl
 have ac3:=Blk.at_ T4.out.a 3 rfl
 have bc3:=Blk.at_ T4.out.b 3 rfl
 have ac4:=Blk.at_ T4.out.a 4 rfl
 have bc4:=Blk.at_ T4.out.b 4 rfl
 have az:=Blk.lt T4.out.a
 have bz:=Blk.lt T4.out.b
 go_wp2_with fail
 clear ac0 bc0 ac1 bc1 ac2 bc2 ac3 bc3 ac4 bc4 az bz
 refine (l1nan_any fa _).mono ?_
 rintro e w5 ⟨rfl,o5⟩
 have T5:Hid _:=T4.out.onw o5
 clear o5
 have ac0:=Blk.at_ T5.out.a 0 rfl
 have bc0:=Blk.at_ T5.out.b 0 rfl
 have ac1:=Blk.at_ T5.out.a 1 rfl
 have bc1:=Blk.at_ T5.out.b 1 rfl
 have ac2:=Blk.at_ T5.out.a 2 rfl
 have bc2:=Blk.at_ T5.out.b 2 rfl
 have ac3:=Blk.at_ T5.out.a 3 rfl
 have bc3:=Blk.at_ T5.out.b 3 rfl
 have ac4:=Blk.at_ T5.out.a 4 rfl
 have bc4:=Blk.at_ T5.out.b 4 rfl
 have az:=Blk.lt T5.out.a
 have bz:=Blk.lt T5.out.b
 cases hn:(FloatKind.f64.format.order fa fa !=some .eq)
 rotate_left
 ·exact J124
 go_wp2_with fail
 clear ac0 bc0 ac1 bc1 ac2 bc2 ac3 bc3 ac4 bc4 az bz
 refine (l1intflt_any nb fa _).mono ?_
 exact J70
theorem compare_ff (ka na:Int)(fa:Nat)(sa:ByteArray)(ra:Int)(kb nb:Int)(fb:Nat)(sb:ByteArray)(rb:Int)(w:World)(_ha4:(ka==4)=false)(_ha2:(ka==2)=false)(_ha3:(ka==3)=true)(_hb4:(kb==4)=false)(_hb2:(kb==2)=false)(_hb3:(kb==3)=true):Calls Tryz.prog 123 #[.agg #[.int .i64 ka,.int .i64 na,.float .f64 fa,.string sa,.int .i64 ra],.agg #[.int .i64 kb,.int .i64 nb,.float .f64 fb,.string sb,.int .i64 rb]] w fun e w'=>RetI e/\Onw w w':=by
 go_enter Tryz.func123,Tryz.ntmps123
 go_wp2_with fail
 have T0:Hid (TwoV w _ #[.int .i64 ka,.int .i64 na,.float .f64 fa,.string sa,.int .i64 ra] #[.int .i64 kb,.int .i64 nb,.float .f64 fb,.string sb,.int .i64 rb]):=TwoV.start w _ _
 generalize (w.alloc (Obj.cells #[.int .i64 ka,.int .i64 na,.float .f64 fa,.string sa,.int .i64 ra] 153)).alloc (Obj.cells #[.int .i64 kb,.int .i64 nb,.float .f64 fb,.string sb,.int .i64 rb] 153)=w0' at*
 refine (valueOk_any ka na fa sa ra _).mono ?_
 rintro e w1 ⟨⟨x,rfl,hx⟩,o1⟩
 have T1:Hid _:=T0.out.onw o1
 clear o1
 have ac0:=Blk.at_ T1.out.a 0 rfl
 have bc0:=Blk.at_ T1.out.b 0 rfl
 have ac1:=Blk.at_ T1.out.a 1 rfl
 have bc1:=Blk.at_ T1.out.b 1 rfl
 have ac2:=Blk.at_ T1.out.a 2 rfl
 have bc2:=Blk.at_ T1.out.b 2 rfl
 have ac3:=Blk.at_ T1.out.a 3 rfl
 have bc3:=Blk.at_ T1.out.b 3 rfl
 have ac4:=Blk.at_ T1.out.a 4 rfl
 have bc4:=Blk.at_ T1.out.b 4 rfl
 have az:=Blk.lt T1.out.a
 have bz:=Blk.lt T1.out.b
 have HX:Hid _:=hx
 clear hx
 cases x
 ·exact J121
 have sa1:sa.size<=4000:=HX.out rfl
 go_wp2_with fail
 clear ac0 bc0 ac1 bc1 ac2 bc2 ac3 bc3 ac4 bc4 az bz
 refine (valueOk_any kb nb fb sb rb _).mono ?_
 rintro e w2 ⟨⟨y,rfl,hy⟩,o2⟩
 have T2:Hid _:=T1.out.onw o2
 clear o2
 have ac0:=Blk.at_ T2.out.a 0 rfl
 have bc0:=Blk.at_ T2.out.b 0 rfl
 have ac1:=Blk.at_ T2.out.a 1 rfl
 have bc1:=Blk.at_ T2.out.b 1 rfl
 have ac2:=Blk.at_ T2.out.a 2 rfl
 have bc2:=Blk.at_ T2.out.b 2 rfl
 have ac3:=Blk.at_ T2.out.a 3 rfl
 have bc3:=Blk.at_ T2.out.b 3 rfl
 have ac4:=Blk.at_ T2.out.a 4 rfl
 have bc4:=Blk.at_ T2.out.b 4 rfl
 have az:=Blk.lt T2.out.a
 have bz:=Blk.lt T2.out.b
 have HY:Hid _:=hy
 clear hy
 cases y
 ·exact J122
 have sb1:sb.size<=4000:=HY.out rfl
 go_wp2_with fail
 clear ac0 bc0 ac1 bc1 ac2 bc2 ac3 bc3 ac4 bc4 az bz
 refine (l1num_any ka na fa sa ra _).mono ?_
 rintro e w3 ⟨rfl,o3⟩
 have T3:Hid _:=T2.out.onw o3
 clear o3
 have ac0:=Blk.at_ T3.out.a 0 rfl
 have bc0:=Blk.at_ T3.out.b 0 rfl
 have ac1:=Blk.at_ T3.out.a 1 rfl
 have bc1:=Blk.at_ T3.out.b 1 rfl
 have ac2:=Blk.at_ T3.out.a 2 rfl
 have bc2:=Blk.at_ T3.out.b 2 rfl
 have ac3:=Blk.at_ T3.out.a 3 rfl
 have bc3:=Blk.at_ T3.out.b 3 rfl
 have ac4:=Blk.at_ T3.out.a 4 rfl
 have bc4:=Blk.at_ T3.out.b 4 rfl
 have az:=Blk.lt T3.out.a
 have bz:=Blk.lt T3.out.b
 go_wp2_with fail
 clear ac0 bc0 ac1 bc1 ac2 bc2 ac3 bc3 ac4 bc4 az bz
 refine (l1num_any kb nb fb sb rb _).mono ?_
 rintro e w4 ⟨rfl,o4⟩
 have T4:Hid _:=T3.out.onw o4
 clear o4
 have ac0:=Blk.at_ T4.out.a 0 rfl
 have bc0:=Blk.at_ T4.out.b 0 rfl
 have ac1:=Blk.at_ T4.out.a 1 rfl
 have bc1:=Blk.at_ T4.out.b 1 rfl
 have ac2:=Blk.at_ T4.out.a 2 rfl
 have bc2:=Blk.at_ T4.out.b 2 rfl
 have ac3:=Blk.at_ T4.out.a 3 rfl
 have bc3:=Blk.at_ T4.out.b 3 rfl
 have ac4:=Blk.at_ T4.out.a 4 rfl
 have bc4:=Blk.at_ T4.out.b 4 rfl
 have az:=Blk.lt T4.out.a
 have bz:=Blk.lt T4.out.b
 go_wp2_with fail
 clear ac0 bc0 ac1 bc1 ac2 bc2 ac3 bc3 ac4 bc4 az bz
 refine (l1nan_any fa _).mono ?_
 rintro e w5 ⟨rfl,o5⟩
 have T5:Hid _:=T4.out.onw o5
 clear o5
 have ac0:=Blk.at_ T5.out.a 0 rfl
 have bc0:=Blk.at_ T5.out.b 0 rfl
 have ac1:=Blk.at_ T5.out.a 1 rfl
 have bc1:=Blk.at_ T5.out.b 1 rfl
 have ac2:=Blk.at_ T5.out.a 2 rfl
 have bc2:=Blk.at_ T5.out.b 2 rfl
 have ac3:=Blk.at_ T5.out.a 3 rfl
 have bc3:=Blk.at_ T5.out.b 3 rfl
 have ac4:=Blk.at_ T5.out.a 4 rfl
 have bc4:=Blk.at_ T5.out.b 4 rfl
 have az:=Blk.lt T5.out.a
 have bz:=Blk.lt T5.out.b
 cases hn:(FloatKind.f64.format.order fa fa !=some .eq)
 rotate_left
 ·exact J124
 go_wp2_with fail
 clear ac0 bc0 ac1 bc1 ac2 bc2 ac3 bc3 ac4 bc4 az bz
 refine (l1nan_any fb _).mono ?_
 rintro e w6 ⟨rfl,o6⟩
 have T6:Hid _:=T5.out.onw o6
 clear o6
 have ac0:=Blk.at_ T6.out.a 0 rfl
 have bc0:=Blk.at_ T6.out.b 0 rfl
 have ac1:=Blk.at_ T6.out.a 1 rfl
 have bc1:=Blk.at_ T6.out.b 1 rfl
 have ac2:=Blk.at_ T6.out.a 2 rfl
 have bc2:=Blk.at_ T6.out.b 2 rfl
 have ac3:=Blk.at_ T6.out.a 3 rfl
 have bc3:=Blk.at_ T6.out.b 3 rfl
 have ac4:=Blk.at_ T6.out.a 4 rfl
 have bc4:=Blk.at_ T6.out.b 4 rfl
 have az:=Blk.lt T6.out.a
 have bz:=Blk.lt T6.out.b
 cases hn2:(FloatKind.f64.format.order fb fb !=some .eq)
 rotate_left
 ·exact J197
 exact J197
theorem compare_any (ka na:Int)(fa:Nat)(sa:ByteArray)(ra:Int)(kb nb:Int)(fb:Nat)(sb:ByteArray)(rb:Int)(w:World):Calls Tryz.prog 123 #[.agg #[.int .i64 ka,.int .i64 na,.float .f64 fa,.string sa,.int .i64 ra],.agg #[.int .i64 kb,.int .i64 nb,.float .f64 fb,.string sb,.int .i64 rb]] w fun e w'=>RetI e/\Onw w w':=by
 have Ka:((ka==4)=true/\(ka==2)=false/\(ka==3)=false)\/((ka==4)=false/\(ka==2)=true/\(ka==3)=false)\/((ka==4)=false/\(ka==2)=false/\(ka==3)=true)\/((ka==4)=false/\(ka==2)=false/\(ka==3)=false):=by simp only[beq_eq_false_iff_ne,beq_iff_eq];omega
 have Kb:((kb==4)=true/\(kb==2)=false/\(kb==3)=false)\/((kb==4)=false/\(kb==2)=true/\(kb==3)=false)\/((kb==4)=false/\(kb==2)=false/\(kb==3)=true)\/((kb==4)=false/\(kb==2)=false/\(kb==3)=false):=by simp only[beq_eq_false_iff_ne,beq_iff_eq];omega
 rcases Ka with ⟨p,q,r⟩|⟨p,q,r⟩|⟨p,q,r⟩|⟨p,q,r⟩
 ·rcases Kb with ⟨p',q',r'⟩|⟨p',q',r'⟩|⟨p',q',r'⟩|⟨p',q',r'⟩
  ·exact compare_ss ka na fa sa ra kb nb fb sb rb w p q r p' q' r'
  ·exact compare_si ka na fa sa ra kb nb fb sb rb w p q r p' q' r'
  ·exact compare_sf ka na fa sa ra kb nb fb sb rb w p q r p' q' r'
  ·exact compare_so ka na fa sa ra kb nb fb sb rb w p q r p' q' r'
 ·rcases Kb with ⟨p',q',r'⟩|⟨p',q',r'⟩|⟨p',q',r'⟩|⟨p',q',r'⟩
  ·exact compare_is ka na fa sa ra kb nb fb sb rb w p q r p' q' r'
  ·exact compare_ii ka na fa sa ra kb nb fb sb rb w p q r p' q' r'
  ·exact compare_if ka na fa sa ra kb nb fb sb rb w p q r p' q' r'
  ·exact compare_io ka na fa sa ra kb nb fb sb rb w p q r p' q' r'
 ·rcases Kb with ⟨p',q',r'⟩|⟨p',q',r'⟩|⟨p',q',r'⟩|⟨p',q',r'⟩
  ·exact compare_fs ka na fa sa ra kb nb fb sb rb w p q r p' q' r'
  ·exact compare_fi ka na fa sa ra kb nb fb sb rb w p q r p' q' r'
  ·exact compare_ff ka na fa sa ra kb nb fb sb rb w p q r p' q' r'
  ·exact compare_fo ka na fa sa ra kb nb fb sb rb w p q r p' q' r'
 ·rcases Kb with ⟨p',q',r'⟩|⟨p',q',r'⟩|⟨p',q',r'⟩|⟨p',q',r'⟩
  ·exact compare_os ka na fa sa ra kb nb fb sb rb w p q r p' q' r'
  ·exact compare_oi ka na fa sa ra kb nb fb sb rb w p q r p' q' r'
  ·exact compare_of ka na fa sa ra kb nb fb sb rb w p q r p' q' r'
  ·exact compare_oo ka na fa sa ra kb nb fb sb rb w p q r p' q' r'
theorem same_any (ka na:Int)(fa:Nat)(sa:ByteArray)(ra:Int)(kb nb:Int)(fb:Nat)(sb:ByteArray)(rb:Int)(w:World):Calls Tryz.prog 122 #[.agg #[.int .i64 ka,.int .i64 na,.float .f64 fa,.string sa,.int .i64 ra],.agg #[.int .i64 kb,.int .i64 nb,.float .f64 fb,.string sb,.int .i64 rb]] w fun e w'=>(∃x,e= .returned (.bool x))/\Onw w w':=by
 go_enter Tryz.func122,Tryz.ntmps122
 go_wp2_with fail
 have T0:Hid (TwoV w _ #[.int .i64 ka,.int .i64 na,.float .f64 fa,.string sa,.int .i64 ra] #[.int .i64 kb,.int .i64 nb,.float .f64 fb,.string sb,.int .i64 rb]):=TwoV.start w _ _
 generalize (w.alloc (Obj.cells #[.int .i64 ka,.int .i64 na,.float .f64 fa,.string sa,.int .i64 ra] 153)).alloc (Obj.cells #[.int .i64 kb,.int .i64 nb,.float .f64 fb,.string sb,.int .i64 rb] 153)=w0' at*
 refine (valueOk_any ka na fa sa ra _).mono ?_
 rintro e w1 ⟨⟨x,rfl,hx⟩,o1⟩
 have T1:Hid _:=T0.out.onw o1
 clear o1
 have ac0:=Blk.at_ T1.out.a 0 rfl
 have bc0:=Blk.at_ T1.out.b 0 rfl
 have ac1:=Blk.at_ T1.out.a 1 rfl
 have bc1:=Blk.at_ T1.out.b 1 rfl
 have ac2:=Blk.at_ T1.out.a 2 rfl
 have bc2:=Blk.at_ T1.out.b 2 rfl
 have ac3:=Blk.at_ T1.out.a 3 rfl
 have bc3:=Blk.at_ T1.out.b 3 rfl
 have ac4:=Blk.at_ T1.out.a 4 rfl
 have bc4:=Blk.at_ T1.out.b 4 rfl
 have az:=Blk.lt T1.out.a
 have bz:=Blk.lt T1.out.b
 have HX:Hid _:=hx
 clear hx
 cases x
 ·exact J121
 have sa1:sa.size<=4000:=HX.out rfl
 go_wp2_with fail
 clear ac0 bc0 ac1 bc1 ac2 bc2 ac3 bc3 ac4 bc4 az bz
 refine (valueOk_any kb nb fb sb rb _).mono ?_
 rintro e w2 ⟨⟨y,rfl,hy⟩,o2⟩
 have T2:Hid _:=T1.out.onw o2
 clear o2
 have ac0:=Blk.at_ T2.out.a 0 rfl
 have bc0:=Blk.at_ T2.out.b 0 rfl
 have ac1:=Blk.at_ T2.out.a 1 rfl
 have bc1:=Blk.at_ T2.out.b 1 rfl
 have ac2:=Blk.at_ T2.out.a 2 rfl
 have bc2:=Blk.at_ T2.out.b 2 rfl
 have ac3:=Blk.at_ T2.out.a 3 rfl
 have bc3:=Blk.at_ T2.out.b 3 rfl
 have ac4:=Blk.at_ T2.out.a 4 rfl
 have bc4:=Blk.at_ T2.out.b 4 rfl
 have az:=Blk.lt T2.out.a
 have bz:=Blk.lt T2.out.b
 have HY:Hid _:=hy
 clear hy
 cases y
 ·exact J122
 have sb1:sb.size<=4000:=HY.out rfl
 go_wp2_with fail
 clear ac0 bc0 ac1 bc1 ac2 bc2 ac3 bc3 ac4 bc4 az bz
 refine (l1num_any ka na fa sa ra _).mono ?_
 rintro e w3 ⟨rfl,o3⟩
 have T3:Hid _:=T2.out.onw o3
 clear o3
 have ac0:=Blk.at_ T3.out.a 0 rfl
 have bc0:=Blk.at_ T3.out.b 0 rfl
 have ac1:=Blk.at_ T3.out.a 1 rfl
 have bc1:=Blk.at_ T3.out.b 1 rfl
 have ac2:=Blk.at_ T3.out.a 2 rfl
 have bc2:=Blk.at_ T3.out.b 2 rfl
 have ac3:=Blk.at_ T3.out.a 3 rfl
 have bc3:=Blk.at_ T3.out.b 3 rfl
 have ac4:=Blk.at_ T3.out.a 4 rfl
 have bc4:=Blk.at_ T3.out.b 4 rfl
 have az:=Blk.lt T3.out.a
 have bz:=Blk.lt T3.out.b
 cases hA:(ka==2||ka==3)
 ·exact J196
 go_wp2_with fail
 clear ac0 bc0 ac1 bc1 ac2 bc2 ac3 bc3 ac4 bc4 az bz
 refine (l1num_any kb nb fb sb rb _).mono ?_
 rintro e w4 ⟨rfl,o4⟩
 have T4:Hid _:=T3.out.onw o4
 clear o4
 have ac0:=Blk.at_ T4.out.a 0 rfl
 have bc0:=Blk.at_ T4.out.b 0 rfl
 have ac1:=Blk.at_ T4.out.a 1 rfl
 have bc1:=Blk.at_ T4.out.b 1 rfl
 have ac2:=Blk.at_ T4.out.a 2 rfl
 have bc2:=Blk.at_ T4.out.b 2 rfl
 have ac3:=Blk.at_ T4.out.a 3 rfl
 have bc3:=Blk.at_ T4.out.b 3 rfl
 have ac4:=Blk.at_ T4.out.a 4 rfl
 have bc4:=Blk.at_ T4.out.b 4 rfl
 have az:=Blk.lt T4.out.a
 have bz:=Blk.lt T4.out.b
 cases hB:(kb==2||kb==3)
 ·exact J245
 go_wp2_with fail
 clear ac0 bc0 ac1 bc1 ac2 bc2 ac3 bc3 ac4 bc4 az bz
 refine (compare_any ka na fa sa ra kb nb fb sb rb _).mono ?_
 rintro e w5 ⟨⟨c,rfl⟩,o5⟩
 have T5:Hid _:=T4.out.onw o5
 clear o5
 have ac0:=Blk.at_ T5.out.a 0 rfl
 have bc0:=Blk.at_ T5.out.b 0 rfl
 have ac1:=Blk.at_ T5.out.a 1 rfl
 have bc1:=Blk.at_ T5.out.b 1 rfl
 have ac2:=Blk.at_ T5.out.a 2 rfl
 have bc2:=Blk.at_ T5.out.b 2 rfl
 have ac3:=Blk.at_ T5.out.a 3 rfl
 have bc3:=Blk.at_ T5.out.b 3 rfl
 have ac4:=Blk.at_ T5.out.a 4 rfl
 have bc4:=Blk.at_ T5.out.b 4 rfl
 have az:=Blk.lt T5.out.a
 have bz:=Blk.lt T5.out.b
 exact J124
end Go.Proofs.YtlibofjbhhdjdaaGreat
