import Derived.Test.YtlibofjbhhdjdaaGreatQ
import Derived.Test.YtlibofjbhhdjdaaGreatP00
import Derived.Test.YtlibofjbhhdjdaaGreatP31
import Derived.Test.YtlibofjbhhdjdaaGreatP33
import Derived.Test.YtlibofjbhhdjdaaGreatP32
set_option linter.unusedSimpArgs false
set_option maxRecDepth 100000
set_option maxHeartbeats 16000000
namespace Go.Proofs.YtlibofjbhhdjdaaGreat
open Go.RowKit
variable {c:Array Value} {g:Nat} {e:TypeId} {a b w:World}
theorem on1 (T:Onw w a/\Blk a g e c)(o:Onw a b):Onw w b/\Blk b g e c:=⟨T.1.trans o,T.2.onw o⟩
theorem on2 {g g':Nat}{e e':TypeId}{c c':Array Value}(T:Onw w a/\Blk a g e c/\Blk a g' e' c')(o:Onw a b):Onw w b/\Blk b g e c/\Blk b g' e' c':=⟨T.1.trans o,T.2.1.onw o,T.2.2.onw o⟩
theorem on3 {g g' g2:Nat}{e e' e2:TypeId}{c c' c2:Array Value}(T:Onw w a/\Blk a g e c/\Blk a g' e' c'/\Blk a g2 e2 c2)(o:Onw a b):Onw w b/\Blk b g e c/\Blk b g' e' c'/\Blk b g2 e2 c2:=⟨T.1.trans o,T.2.1.onw o,T.2.2.1.onw o,T.2.2.2.onw o⟩
theorem st1 (w:World)(e:TypeId)(c:Array Value):Onw w (w.alloc (.cells c e))/\Blk (w.alloc (.cells c e)) w.heap.size e c:=⟨Onw.alloc w _,Blk.new w e c⟩
theorem st2 (w:World)(e e':TypeId)(c c':Array Value):Onw w ((w.alloc (.cells c e)).alloc (.cells c' e'))/\Blk ((w.alloc (.cells c e)).alloc (.cells c' e')) w.heap.size e c/\Blk ((w.alloc (.cells c e)).alloc (.cells c' e')) (w.heap.size+1) e' c':=by
 have h:=on1 (st1 w e c) (Onw.alloc (w.alloc (.cells c e)) (.cells c' e'))
 have k:=Blk.new (w.alloc (.cells c e)) e' c'
 rw[World.size_alloc] at k
 exact ⟨h.1,h.2,k⟩
theorem st3 (w:World)(e e' e2:TypeId)(c c' c2:Array Value):Onw w (((w.alloc (.cells c e)).alloc (.cells c' e')).alloc (.cells c2 e2))/\Blk (((w.alloc (.cells c e)).alloc (.cells c' e')).alloc (.cells c2 e2)) w.heap.size e c/\Blk (((w.alloc (.cells c e)).alloc (.cells c' e')).alloc (.cells c2 e2)) (w.heap.size+1) e' c'/\Blk (((w.alloc (.cells c e)).alloc (.cells c' e')).alloc (.cells c2 e2)) (w.heap.size+2) e2 c2:=by
 have h:=on2 (st2 w e e' c c') (Onw.alloc ((w.alloc (.cells c e)).alloc (.cells c' e')) (.cells c2 e2))
 have k:=Blk.new ((w.alloc (.cells c e)).alloc (.cells c' e')) e2 c2
 rw[World.size_alloc,World.size_alloc] at k
 exact ⟨h.1,h.2.1,h.2.2,k⟩
end Go.Proofs.YtlibofjbhhdjdaaGreat
namespace Go.Proofs.YtlibofjbhhdjdaaGreat
open Go.RowKit
attribute [local go_sem] rsf
theorem text_any (ka na:Int)(fa:Nat)(sa:ByteArray)(ra:Int)(hn:RangeI na)(w:World):Calls Tryz.prog 121 #[.agg #[.int .i64 ka,.int .i64 na,.float .f64 fa,.string sa,.int .i64 ra]] w fun e w'=>RetS e 4000/\Onw w w':=by
 go_enter Tryz.func121,Tryz.ntmps121
 go_wp2_with fail
 have T0:Hid _:=st1 w 153 #[.int .i64 ka,.int .i64 na,.float .f64 fa,.string sa,.int .i64 ra]
 generalize w.alloc (Obj.cells #[.int .i64 ka,.int .i64 na,.float .f64 fa,.string sa,.int .i64 ra] 153)=w0' at*
 refine (valueOk_any ka na fa sa ra _).mono ?_
 rintro e w1 ⟨⟨xa,rfl,hxa⟩,o1⟩
 have T1:Hid _:=on1 T0.out o1
 clear o1
 have HXa:Hid _:=hxa
 clear hxa
 have ac0:=Blk.at_ T1.out.2 0 rfl
 have ac1:=Blk.at_ T1.out.2 1 rfl
 have ac2:=Blk.at_ T1.out.2 2 rfl
 have ac3:=Blk.at_ T1.out.2 3 rfl
 have ac4:=Blk.at_ T1.out.2 4 rfl
 have az:=Blk.lt T1.out.2
 cases xa
 ·exact J205
 have sza:sa.size<=4000:=HXa.out rfl
 by_cases e0:ka=0
 ·have f0:(ka==0)=true:=by rw[beq_iff_eq];exact e0
  clear e0
  exact J95
 have f0:(ka==0)=false:=by rw[beq_eq_false_iff_ne];exact e0
 clear e0
 by_cases e1:ka=1
 ·have f1:(ka==1)=true:=by rw[beq_iff_eq];exact e1
  clear e1
  exact J95
 have f1:(ka==1)=false:=by rw[beq_eq_false_iff_ne];exact e1
 clear e1
 by_cases e2:ka=2
 ·have f2:(ka==2)=true:=by rw[beq_iff_eq];exact e2
  clear e2
  go_wp2_with fail
  clear ac0 ac1 ac2 ac3 ac4 az
  refine (decimal_any na _ hn.1 hn.2).mono ?_
  exact J87
 have f2:(ka==2)=false:=by rw[beq_eq_false_iff_ne];exact e2
 clear e2
 by_cases e3:ka=3
 ·have f3:(ka==3)=true:=by rw[beq_iff_eq];exact e3
  clear e3
  go_wp2_with fail
  clear ac0 ac1 ac2 ac3 ac4 az
  refine (floattext_any fa _).mono ?_
  exact J87
 have f3:(ka==3)=false:=by rw[beq_eq_false_iff_ne];exact e3
 clear e3
 by_cases e4:ka=4
 ·have f4:(ka==4)=true:=by rw[beq_iff_eq];exact e4
  clear e4
  go_wp2_with fail
  go_ret
  exact ⟨⟨_,rfl,sza⟩,T1.out.1⟩
 have f4:(ka==4)=false:=by rw[beq_eq_false_iff_ne];exact e4
 clear e4
 by_cases e5:ka=5
 ·have f5:(ka==5)=true:=by rw[beq_iff_eq];exact e5
  clear e5
  exact J95
 have f5:(ka==5)=false:=by rw[beq_eq_false_iff_ne];exact e5
 clear e5
 by_cases e6:ka=6
 ·have f6:(ka==6)=true:=by rw[beq_iff_eq];exact e6
  clear e6
  exact J95
 have f6:(ka==6)=false:=by rw[beq_eq_false_iff_ne];exact e6
 clear e6
 by_cases e7:ka=7
 ·have f7:(ka==7)=true:=by rw[beq_iff_eq];exact e7
  clear e7
  exact J95
 have f7:(ka==7)=false:=by rw[beq_eq_false_iff_ne];exact e7
 clear e7
 exact J205
theorem bin_low (op:Int)(ka na:Int)(fa:Nat)(sa:ByteArray)(ra:Int)(kb nb:Int)(fb:Nat)(sb:ByteArray)(rb:Int)(_ha:RangeI na)(_hb:RangeI nb)(o1:decide (op < 1)=true)(w:World):Calls Tryz.prog 108 #[.int .i64 op,.agg #[.int .i64 ka,.int .i64 na,.float .f64 fa,.string sa,.int .i64 ra],.agg #[.int .i64 kb,.int .i64 nb,.float .f64 fb,.string sb,.int .i64 rb]] w fun e w'=>(∃v,e= .returned v/\IsVd v)/\Onw w w':=by
 exact J40
theorem bin_high (op:Int)(ka na:Int)(fa:Nat)(sa:ByteArray)(ra:Int)(kb nb:Int)(fb:Nat)(sb:ByteArray)(rb:Int)(_ha:RangeI na)(_hb:RangeI nb)(o1:decide (op < 1)=false)(o2:decide (18 < op)=true)(w:World):Calls Tryz.prog 108 #[.int .i64 op,.agg #[.int .i64 ka,.int .i64 na,.float .f64 fa,.string sa,.int .i64 ra],.agg #[.int .i64 kb,.int .i64 nb,.float .f64 fb,.string sb,.int .i64 rb]] w fun e w'=>(∃v,e= .returned v/\IsVd v)/\Onw w w':=by
 exact J40
theorem bin_join (op:Int)(ka na:Int)(fa:Nat)(sa:ByteArray)(ra:Int)(kb nb:Int)(fb:Nat)(sb:ByteArray)(rb:Int)(_ha:RangeI na)(_hb:RangeI nb)(o1:decide (op < 1)=false)(o2:decide (18 < op)=false)(_p12:(op==12)=true)(_p13:(op==13)=false)(_p14:(op==14)=false)(w:World):Calls Tryz.prog 108 #[.int .i64 op,.agg #[.int .i64 ka,.int .i64 na,.float .f64 fa,.string sa,.int .i64 ra],.agg #[.int .i64 kb,.int .i64 nb,.float .f64 fb,.string sb,.int .i64 rb]] w fun e w'=>(∃v,e= .returned v/\IsVd v)/\Onw w w':=by
 go_enter Tryz.func108,Tryz.ntmps108
 go_wp2_with fail
 have T0:Hid _:=st3 w 153 153 207 #[.int .i64 ka,.int .i64 na,.float .f64 fa,.string sa,.int .i64 ra] #[.int .i64 kb,.int .i64 nb,.float .f64 fb,.string sb,.int .i64 rb] #[.int .i64 0,.int .i64 0,.int .i64 0,.float .f64 0,.string {data:= #[]},.int .i64 0]
 generalize ((w.alloc (Obj.cells #[.int .i64 ka,.int .i64 na,.float .f64 fa,.string sa,.int .i64 ra] 153)).alloc (Obj.cells #[.int .i64 kb,.int .i64 nb,.float .f64 fb,.string sb,.int .i64 rb] 153)).alloc (Obj.cells #[.int .i64 0,.int .i64 0,.int .i64 0,.float .f64 0,.string {data:= #[]},.int .i64 0] 207)=w0' at*
 refine (valueOk_any ka na fa sa ra _).mono ?_
 rintro e w1 ⟨⟨xa,rfl,hxa⟩,o1⟩
 have T1:Hid _:=on3 T0.out o1
 clear o1
 have HXa:Hid _:=hxa
 clear hxa
 have ac0:=Blk.at_ T1.out.2.1 0 rfl
 have ac1:=Blk.at_ T1.out.2.1 1 rfl
 have ac2:=Blk.at_ T1.out.2.1 2 rfl
 have ac3:=Blk.at_ T1.out.2.1 3 rfl
 have ac4:=Blk.at_ T1.out.2.1 4 rfl
 have az:=Blk.lt T1.out.2.1
 have bc0:=Blk.at_ T1.out.2.2.1 0 rfl
 have bc1:=Blk.at_ T1.out.2.2.1 1 rfl
 have bc2:=Blk.at_ T1.out.2.2.1 2 rfl
 have bc3:=Blk.at_ T1.out.2.2.1 3 rfl
 have bc4:=Blk.at_ T1.out.2.2.1 4 rfl
 have bz:=Blk.lt T1.out.2.2.1
 cases xa
 ·exact J5
 have sza:sa.size<=4000:=HXa.out rfl
 go_wp2_with fail
 clear ac0 ac1 ac2 ac3 ac4 bc0 bc1 bc2 bc3 bc4 az bz
 refine (valueOk_any kb nb fb sb rb _).mono ?_
 rintro e w2 ⟨⟨xb,rfl,hxb⟩,o2⟩
 have T2:Hid _:=on3 T1.out o2
 clear o2
 have HXb:Hid _:=hxb
 clear hxb
 have ac0:=Blk.at_ T2.out.2.1 0 rfl
 have ac1:=Blk.at_ T2.out.2.1 1 rfl
 have ac2:=Blk.at_ T2.out.2.1 2 rfl
 have ac3:=Blk.at_ T2.out.2.1 3 rfl
 have ac4:=Blk.at_ T2.out.2.1 4 rfl
 have az:=Blk.lt T2.out.2.1
 have bc0:=Blk.at_ T2.out.2.2.1 0 rfl
 have bc1:=Blk.at_ T2.out.2.2.1 1 rfl
 have bc2:=Blk.at_ T2.out.2.2.1 2 rfl
 have bc3:=Blk.at_ T2.out.2.2.1 3 rfl
 have bc4:=Blk.at_ T2.out.2.2.1 4 rfl
 have bz:=Blk.lt T2.out.2.2.1
 cases xb
 ·exact J3
 have szb:sb.size<=4000:=HXb.out rfl
 go_wp2_with fail
 clear ac0 ac1 ac2 ac3 ac4 bc0 bc1 bc2 bc3 bc4 az bz
 refine (l1joins_any ka na fa sa ra _).mono ?_
 rintro e w3 ⟨⟨ja,rfl⟩,o3⟩
 have T3:Hid _:=on3 T2.out o3
 clear o3
 have ac0:=Blk.at_ T3.out.2.1 0 rfl
 have ac1:=Blk.at_ T3.out.2.1 1 rfl
 have ac2:=Blk.at_ T3.out.2.1 2 rfl
 have ac3:=Blk.at_ T3.out.2.1 3 rfl
 have ac4:=Blk.at_ T3.out.2.1 4 rfl
 have az:=Blk.lt T3.out.2.1
 have bc0:=Blk.at_ T3.out.2.2.1 0 rfl
 have bc1:=Blk.at_ T3.out.2.2.1 1 rfl
 have bc2:=Blk.at_ T3.out.2.2.1 2 rfl
 have bc3:=Blk.at_ T3.out.2.2.1 3 rfl
 have bc4:=Blk.at_ T3.out.2.2.1 4 rfl
 have bz:=Blk.lt T3.out.2.2.1
 cases ja
 ·exact J47
 go_wp2_with fail
 clear ac0 ac1 ac2 ac3 ac4 bc0 bc1 bc2 bc3 bc4 az bz
 refine (l1joins_any kb nb fb sb rb _).mono ?_
 rintro e w4 ⟨⟨jb,rfl⟩,o4⟩
 have T4:Hid _:=on3 T3.out o4
 clear o4
 have ac0:=Blk.at_ T4.out.2.1 0 rfl
 have ac1:=Blk.at_ T4.out.2.1 1 rfl
 have ac2:=Blk.at_ T4.out.2.1 2 rfl
 have ac3:=Blk.at_ T4.out.2.1 3 rfl
 have ac4:=Blk.at_ T4.out.2.1 4 rfl
 have az:=Blk.lt T4.out.2.1
 have bc0:=Blk.at_ T4.out.2.2.1 0 rfl
 have bc1:=Blk.at_ T4.out.2.2.1 1 rfl
 have bc2:=Blk.at_ T4.out.2.2.1 2 rfl
 have bc3:=Blk.at_ T4.out.2.2.1 3 rfl
 have bc4:=Blk.at_ T4.out.2.2.1 4 rfl
 have bz:=Blk.lt T4.out.2.2.1
 cases jb
 ·exact J238
 go_wp2_with fail
 clear ac0 ac1 ac2 ac3 ac4 bc0 bc1 bc2 bc3 bc4 az bz
 refine (text_any ka na fa sa ra _ha _).mono ?_
 rintro e w5 ⟨⟨ta,rfl,hta⟩,o5⟩
 have T5:Hid _:=on3 T4.out o5
 clear o5
 have ac0:=Blk.at_ T5.out.2.1 0 rfl
 have ac1:=Blk.at_ T5.out.2.1 1 rfl
 have ac2:=Blk.at_ T5.out.2.1 2 rfl
 have ac3:=Blk.at_ T5.out.2.1 3 rfl
 have ac4:=Blk.at_ T5.out.2.1 4 rfl
 have az:=Blk.lt T5.out.2.1
 have bc0:=Blk.at_ T5.out.2.2.1 0 rfl
 have bc1:=Blk.at_ T5.out.2.2.1 1 rfl
 have bc2:=Blk.at_ T5.out.2.2.1 2 rfl
 have bc3:=Blk.at_ T5.out.2.2.1 3 rfl
 have bc4:=Blk.at_ T5.out.2.2.1 4 rfl
 have bz:=Blk.lt T5.out.2.2.1
 go_wp2_with fail
 clear ac0 ac1 ac2 ac3 ac4 bc0 bc1 bc2 bc3 bc4 az bz
 refine (text_any kb nb fb sb rb _hb _).mono ?_
 rintro e w6 ⟨⟨tb,rfl,htb⟩,o6⟩
 have T6:Hid _:=on3 T5.out o6
 clear o6
 have ac0:=Blk.at_ T6.out.2.1 0 rfl
 have ac1:=Blk.at_ T6.out.2.1 1 rfl
 have ac2:=Blk.at_ T6.out.2.1 2 rfl
 have ac3:=Blk.at_ T6.out.2.1 3 rfl
 have ac4:=Blk.at_ T6.out.2.1 4 rfl
 have az:=Blk.lt T6.out.2.1
 have bc0:=Blk.at_ T6.out.2.2.1 0 rfl
 have bc1:=Blk.at_ T6.out.2.2.1 1 rfl
 have bc2:=Blk.at_ T6.out.2.2.1 2 rfl
 have bc3:=Blk.at_ T6.out.2.2.1 3 rfl
 have bc4:=Blk.at_ T6.out.2.2.1 4 rfl
 have bz:=Blk.lt T6.out.2.2.1
 by_cases hlong:ta.size+tb.size<=4000
 ·have hl2:decide ((4000:Int) < (ta.size:Int)+(tb.size:Int))=false:=decide_eq_false Zo
  go_wp2_with fail
  clear ac0 ac1 ac2 ac3 ac4 bc0 bc1 bc2 bc3 bc4 az bz
  refine (l1str_any _ (by rw[ByteArray.size_append];omega) _).mono ?_
  rintro e w7 ⟨⟨_,rfl,k1,n1,f1,s1,r1,rfl,v1⟩,o7⟩
  have T7:Hid _:=on3 T6.out o7
  clear o7
  have V1:Hid _:=v1
  clear v1
  have ac0:=Blk.at_ T7.out.2.1 0 rfl
  have ac1:=Blk.at_ T7.out.2.1 1 rfl
  have ac2:=Blk.at_ T7.out.2.1 2 rfl
  have ac3:=Blk.at_ T7.out.2.1 3 rfl
  have ac4:=Blk.at_ T7.out.2.1 4 rfl
  have az:=Blk.lt T7.out.2.1
  have bc0:=Blk.at_ T7.out.2.2.1 0 rfl
  have bc1:=Blk.at_ T7.out.2.2.1 1 rfl
  have bc2:=Blk.at_ T7.out.2.2.1 2 rfl
  have bc3:=Blk.at_ T7.out.2.2.1 3 rfl
  have bc4:=Blk.at_ T7.out.2.2.1 4 rfl
  have bz:=Blk.lt T7.out.2.2.1
  go_wp2_with fail
  clear ac0 ac1 ac2 ac3 ac4 bc0 bc1 bc2 bc3 bc4 az bz
  refine (l1got_any k1 n1 f1 s1 r1 V1.out _).mono ?_
  rintro e w8 ⟨⟨_,rfl,c9,k9,n9,f9,s9,r9,rfl,v9⟩,o8⟩
  have T8:Hid _:=on3 T7.out o8
  clear o8
  have V9:Hid _:=v9
  clear v9
  have ac0:=Blk.at_ T8.out.2.1 0 rfl
  have ac1:=Blk.at_ T8.out.2.1 1 rfl
  have ac2:=Blk.at_ T8.out.2.1 2 rfl
  have ac3:=Blk.at_ T8.out.2.1 3 rfl
  have ac4:=Blk.at_ T8.out.2.1 4 rfl
  have az:=Blk.lt T8.out.2.1
  have bc0:=Blk.at_ T8.out.2.2.1 0 rfl
  have bc1:=Blk.at_ T8.out.2.2.1 1 rfl
  have bc2:=Blk.at_ T8.out.2.2.1 2 rfl
  have bc3:=Blk.at_ T8.out.2.2.1 3 rfl
  have bc4:=Blk.at_ T8.out.2.2.1 4 rfl
  have bz:=Blk.lt T8.out.2.2.1
  have y0:=Blk.at_ T8.out.2.2.2 0 rfl
  have y1:=Blk.at_ T8.out.2.2.2 1 rfl
  have y2:=Blk.at_ T8.out.2.2.2 2 rfl
  have y3:=Blk.at_ T8.out.2.2.2 3 rfl
  have y4:=Blk.at_ T8.out.2.2.2 4 rfl
  have y5:=Blk.at_ T8.out.2.2.2 5 rfl
  have yf:=Blk.free T8.out.2.2.2
  have yz:=Blk.lt T8.out.2.2.2
  go_wp2_with fail
  exact bodyPost_ret (v:= .agg #[.int .i64 c9,.int .i64 k9,.int .i64 n9,.float .f64 f9,.string s9,.int .i64 r9]) (by simp[results,Tryz.results108,go_sem,y0,y1,y2,y3,y4,y5]) rfl ⟨⟨_,rfl,_,_,_,_,_,_,rfl,V9.out⟩,bset (bset (bset (bset (bset (bset (T8.out.1) Zo _) Zo _) Zo _) Zo _) Zo _) Zo _⟩
 ·have hl2:decide ((4000:Int) < (ta.size:Int)+(tb.size:Int))=true:=decide_eq_true Zo
  go_wp2_with fail
  clear ac0 ac1 ac2 ac3 ac4 bc0 bc1 bc2 bc3 bc4 az bz
  refine (l1fail_any _ _).mono ?_
  rintro e w7 ⟨⟨_,rfl,c9,k9,n9,f9,s9,r9,rfl,v9⟩,o7⟩
  have T7:Hid _:=on3 T6.out o7
  clear o7
  have V9:Hid _:=v9
  clear v9
  have ac0:=Blk.at_ T7.out.2.1 0 rfl
  have ac1:=Blk.at_ T7.out.2.1 1 rfl
  have ac2:=Blk.at_ T7.out.2.1 2 rfl
  have ac3:=Blk.at_ T7.out.2.1 3 rfl
  have ac4:=Blk.at_ T7.out.2.1 4 rfl
  have az:=Blk.lt T7.out.2.1
  have bc0:=Blk.at_ T7.out.2.2.1 0 rfl
  have bc1:=Blk.at_ T7.out.2.2.1 1 rfl
  have bc2:=Blk.at_ T7.out.2.2.1 2 rfl
  have bc3:=Blk.at_ T7.out.2.2.1 3 rfl
  have bc4:=Blk.at_ T7.out.2.2.1 4 rfl
  have bz:=Blk.lt T7.out.2.2.1
  have y0:=Blk.at_ T7.out.2.2.2 0 rfl
  have y1:=Blk.at_ T7.out.2.2.2 1 rfl
  have y2:=Blk.at_ T7.out.2.2.2 2 rfl
  have y3:=Blk.at_ T7.out.2.2.2 3 rfl
  have y4:=Blk.at_ T7.out.2.2.2 4 rfl
  have y5:=Blk.at_ T7.out.2.2.2 5 rfl
  have yf:=Blk.free T7.out.2.2.2
  have yz:=Blk.lt T7.out.2.2.2
  go_wp2_with fail
  exact bodyPost_ret (v:= .agg #[.int .i64 c9,.int .i64 k9,.int .i64 n9,.float .f64 f9,.string s9,.int .i64 r9]) (by simp[results,Tryz.results108,go_sem,y0,y1,y2,y3,y4,y5]) rfl ⟨⟨_,rfl,_,_,_,_,_,_,rfl,V9.out⟩,bset (bset (bset (bset (bset (bset (T7.out.1) Zo _) Zo _) Zo _) Zo _) Zo _) Zo _⟩
theorem bin_ii (op:Int)(ka na:Int)(fa:Nat)(sa:ByteArray)(ra:Int)(kb nb:Int)(fb:Nat)(sb:ByteArray)(rb:Int)(_ha:RangeI na)(_hb:RangeI nb)(o1:decide (op < 1)=false)(o2:decide (18 < op)=false)(_p12:(op==12)=false)(_p13:(op==13)=false)(_p14:(op==14)=false)(_p15:decide (15<=op)=false)(_ha2:(ka==2)=true)(_ha3:(ka==3)=false)(_hb2:(kb==2)=true)(_hb3:(kb==3)=false)(w:World):Calls Tryz.prog 108 #[.int .i64 op,.agg #[.int .i64 ka,.int .i64 na,.float .f64 fa,.string sa,.int .i64 ra],.agg #[.int .i64 kb,.int .i64 nb,.float .f64 fb,.string sb,.int .i64 rb]] w fun e w'=>(∃v,e= .returned v/\IsVd v)/\Onw w w':=by
 go_enter Tryz.func108,Tryz.ntmps108
 go_wp2_with fail
 have T0:Hid _:=st3 w 153 153 207 #[.int .i64 ka,.int .i64 na,.float .f64 fa,.string sa,.int .i64 ra] #[.int .i64 kb,.int .i64 nb,.float .f64 fb,.string sb,.int .i64 rb] #[.int .i64 0,.int .i64 0,.int .i64 0,.float .f64 0,.string {data:= #[]},.int .i64 0]
 generalize ((w.alloc (Obj.cells #[.int .i64 ka,.int .i64 na,.float .f64 fa,.string sa,.int .i64 ra] 153)).alloc (Obj.cells #[.int .i64 kb,.int .i64 nb,.float .f64 fb,.string sb,.int .i64 rb] 153)).alloc (Obj.cells #[.int .i64 0,.int .i64 0,.int .i64 0,.float .f64 0,.string {data:= #[]},.int .i64 0] 207)=w0' at*
 refine (valueOk_any ka na fa sa ra _).mono ?_
 rintro e w1 ⟨⟨xa,rfl,hxa⟩,o1⟩
 have T1:Hid _:=on3 T0.out o1
 clear o1
 have HXa:Hid _:=hxa
 clear hxa
 have ac0:=Blk.at_ T1.out.2.1 0 rfl
 have ac1:=Blk.at_ T1.out.2.1 1 rfl
 have ac2:=Blk.at_ T1.out.2.1 2 rfl
 have ac3:=Blk.at_ T1.out.2.1 3 rfl
 have ac4:=Blk.at_ T1.out.2.1 4 rfl
 have az:=Blk.lt T1.out.2.1
 have bc0:=Blk.at_ T1.out.2.2.1 0 rfl
 have bc1:=Blk.at_ T1.out.2.2.1 1 rfl
 have bc2:=Blk.at_ T1.out.2.2.1 2 rfl
 have bc3:=Blk.at_ T1.out.2.2.1 3 rfl
 have bc4:=Blk.at_ T1.out.2.2.1 4 rfl
 have bz:=Blk.lt T1.out.2.2.1
 cases xa
 ·exact J5
 have sza:sa.size<=4000:=HXa.out rfl
 go_wp2_with fail
 clear ac0 ac1 ac2 ac3 ac4 bc0 bc1 bc2 bc3 bc4 az bz
 refine (valueOk_any kb nb fb sb rb _).mono ?_
 rintro e w2 ⟨⟨xb,rfl,hxb⟩,o2⟩
 have T2:Hid _:=on3 T1.out o2
 clear o2
 have HXb:Hid _:=hxb
 clear hxb
 have ac0:=Blk.at_ T2.out.2.1 0 rfl
 have ac1:=Blk.at_ T2.out.2.1 1 rfl
 have ac2:=Blk.at_ T2.out.2.1 2 rfl
 have ac3:=Blk.at_ T2.out.2.1 3 rfl
 have ac4:=Blk.at_ T2.out.2.1 4 rfl
 have az:=Blk.lt T2.out.2.1
 have bc0:=Blk.at_ T2.out.2.2.1 0 rfl
 have bc1:=Blk.at_ T2.out.2.2.1 1 rfl
 have bc2:=Blk.at_ T2.out.2.2.1 2 rfl
 have bc3:=Blk.at_ T2.out.2.2.1 3 rfl
 have bc4:=Blk.at_ T2.out.2.2.1 4 rfl
 have bz:=Blk.lt T2.out.2.2.1
 cases xb
 ·exact J3
 have szb:sb.size<=4000:=HXb.out rfl
 go_wp2_with fail
 clear ac0 ac1 ac2 ac3 ac4 bc0 bc1 bc2 bc3 bc4 az bz
 refine (l1ints_any op na nb _).mono ?_
 exact J218
theorem bin_o0 (op:Int)(ka na:Int)(fa:Nat)(sa:ByteArray)(ra:Int)(kb nb:Int)(fb:Nat)(sb:ByteArray)(rb:Int)(_ha:RangeI na)(_hb:RangeI nb)(o1:decide (op < 1)=false)(o2:decide (18 < op)=false)(_p12:(op==12)=false)(_p13:(op==13)=false)(_p14:(op==14)=false)(_p15:decide (15<=op)=false)(_ha2:(ka==2)=false)(_ha3:(ka==3)=false)(_hb2:(kb==2)=false)(_hb3:(kb==3)=false)(w:World):Calls Tryz.prog 108 #[.int .i64 op,.agg #[.int .i64 ka,.int .i64 na,.float .f64 fa,.string sa,.int .i64 ra],.agg #[.int .i64 kb,.int .i64 nb,.float .f64 fb,.string sb,.int .i64 rb]] w fun e w'=>(∃v,e= .returned v/\IsVd v)/\Onw w w':=by
 exact J13
theorem bin_o2 (op:Int)(ka na:Int)(fa:Nat)(sa:ByteArray)(ra:Int)(kb nb:Int)(fb:Nat)(sb:ByteArray)(rb:Int)(_ha:RangeI na)(_hb:RangeI nb)(o1:decide (op < 1)=false)(o2:decide (18 < op)=false)(_p12:(op==12)=false)(_p13:(op==13)=false)(_p14:(op==14)=false)(_p15:decide (15<=op)=false)(_ha2:(ka==2)=false)(_ha3:(ka==3)=false)(_hb2:(kb==2)=true)(_hb3:(kb==3)=false)(w:World):Calls Tryz.prog 108 #[.int .i64 op,.agg #[.int .i64 ka,.int .i64 na,.float .f64 fa,.string sa,.int .i64 ra],.agg #[.int .i64 kb,.int .i64 nb,.float .f64 fb,.string sb,.int .i64 rb]] w fun e w'=>(∃v,e= .returned v/\IsVd v)/\Onw w w':=by
 exact J13
theorem bin_o3 (op:Int)(ka na:Int)(fa:Nat)(sa:ByteArray)(ra:Int)(kb nb:Int)(fb:Nat)(sb:ByteArray)(rb:Int)(_ha:RangeI na)(_hb:RangeI nb)(o1:decide (op < 1)=false)(o2:decide (18 < op)=false)(_p12:(op==12)=false)(_p13:(op==13)=false)(_p14:(op==14)=false)(_p15:decide (15<=op)=false)(_ha2:(ka==2)=false)(_ha3:(ka==3)=false)(_hb2:(kb==2)=false)(_hb3:(kb==3)=true)(w:World):Calls Tryz.prog 108 #[.int .i64 op,.agg #[.int .i64 ka,.int .i64 na,.float .f64 fa,.string sa,.int .i64 ra],.agg #[.int .i64 kb,.int .i64 nb,.float .f64 fb,.string sb,.int .i64 rb]] w fun e w'=>(∃v,e= .returned v/\IsVd v)/\Onw w w':=by
 exact J13
theorem bin_2o (op:Int)(ka na:Int)(fa:Nat)(sa:ByteArray)(ra:Int)(kb nb:Int)(fb:Nat)(sb:ByteArray)(rb:Int)(_ha:RangeI na)(_hb:RangeI nb)(o1:decide (op < 1)=false)(o2:decide (18 < op)=false)(_p12:(op==12)=false)(_p13:(op==13)=false)(_p14:(op==14)=false)(_p15:decide (15<=op)=false)(_ha2:(ka==2)=true)(_ha3:(ka==3)=false)(_hb2:(kb==2)=false)(_hb3:(kb==3)=false)(w:World):Calls Tryz.prog 108 #[.int .i64 op,.agg #[.int .i64 ka,.int .i64 na,.float .f64 fa,.string sa,.int .i64 ra],.agg #[.int .i64 kb,.int .i64 nb,.float .f64 fb,.string sb,.int .i64 rb]] w fun e w'=>(∃v,e= .returned v/\IsVd v)/\Onw w w':=by
 exact J26
theorem bin_3o (op:Int)(ka na:Int)(fa:Nat)(sa:ByteArray)(ra:Int)(kb nb:Int)(fb:Nat)(sb:ByteArray)(rb:Int)(_ha:RangeI na)(_hb:RangeI nb)(o1:decide (op < 1)=false)(o2:decide (18 < op)=false)(_p12:(op==12)=false)(_p13:(op==13)=false)(_p14:(op==14)=false)(_p15:decide (15<=op)=false)(_ha2:(ka==2)=false)(_ha3:(ka==3)=true)(_hb2:(kb==2)=false)(_hb3:(kb==3)=false)(w:World):Calls Tryz.prog 108 #[.int .i64 op,.agg #[.int .i64 ka,.int .i64 na,.float .f64 fa,.string sa,.int .i64 ra],.agg #[.int .i64 kb,.int .i64 nb,.float .f64 fb,.string sb,.int .i64 rb]] w fun e w'=>(∃v,e= .returned v/\IsVd v)/\Onw w w':=by
 exact J26
theorem bin_cmp (op:Int)(ka na:Int)(fa:Nat)(sa:ByteArray)(ra:Int)(kb nb:Int)(fb:Nat)(sb:ByteArray)(rb:Int)(_ha:RangeI na)(_hb:RangeI nb)(o1:decide (op < 1)=false)(o2:decide (18 < op)=false)(_p12:(op==12)=false)(_p13:(op==13)=false)(_p14:(op==14)=false)(_p15:decide (15<=op)=true)(h15:15<=op)(h18:op<=18)(w:World):Calls Tryz.prog 108 #[.int .i64 op,.agg #[.int .i64 ka,.int .i64 na,.float .f64 fa,.string sa,.int .i64 ra],.agg #[.int .i64 kb,.int .i64 nb,.float .f64 fb,.string sb,.int .i64 rb]] w fun e w'=>(∃v,e= .returned v/\IsVd v)/\Onw w w':=by
 go_enter Tryz.func108,Tryz.ntmps108
 go_wp2_with fail
 have T0:Hid _:=st3 w 153 153 207 #[.int .i64 ka,.int .i64 na,.float .f64 fa,.string sa,.int .i64 ra] #[.int .i64 kb,.int .i64 nb,.float .f64 fb,.string sb,.int .i64 rb] #[.int .i64 0,.int .i64 0,.int .i64 0,.float .f64 0,.string {data:= #[]},.int .i64 0]
 generalize ((w.alloc (Obj.cells #[.int .i64 ka,.int .i64 na,.float .f64 fa,.string sa,.int .i64 ra] 153)).alloc (Obj.cells #[.int .i64 kb,.int .i64 nb,.float .f64 fb,.string sb,.int .i64 rb] 153)).alloc (Obj.cells #[.int .i64 0,.int .i64 0,.int .i64 0,.float .f64 0,.string {data:= #[]},.int .i64 0] 207)=w0' at*
 refine (valueOk_any ka na fa sa ra _).mono ?_
 rintro e w1 ⟨⟨xa,rfl,hxa⟩,o1⟩
 have T1:Hid _:=on3 T0.out o1
 clear o1
 have HXa:Hid _:=hxa
 clear hxa
 have ac0:=Blk.at_ T1.out.2.1 0 rfl
 have ac1:=Blk.at_ T1.out.2.1 1 rfl
 have ac2:=Blk.at_ T1.out.2.1 2 rfl
 have ac3:=Blk.at_ T1.out.2.1 3 rfl
 have ac4:=Blk.at_ T1.out.2.1 4 rfl
 have az:=Blk.lt T1.out.2.1
 have bc0:=Blk.at_ T1.out.2.2.1 0 rfl
 have bc1:=Blk.at_ T1.out.2.2.1 1 rfl
 have bc2:=Blk.at_ T1.out.2.2.1 2 rfl
 have bc3:=Blk.at_ T1.out.2.2.1 3 rfl
 have bc4:=Blk.at_ T1.out.2.2.1 4 rfl
 have bz:=Blk.lt T1.out.2.2.1
 cases xa
 ·exact J5
 have sza:sa.size<=4000:=HXa.out rfl
 go_wp2_with fail
 clear ac0 ac1 ac2 ac3 ac4 bc0 bc1 bc2 bc3 bc4 az bz
 refine (valueOk_any kb nb fb sb rb _).mono ?_
 rintro e w2 ⟨⟨xb,rfl,hxb⟩,o2⟩
 have T2:Hid _:=on3 T1.out o2
 clear o2
 have HXb:Hid _:=hxb
 clear hxb
 have ac0:=Blk.at_ T2.out.2.1 0 rfl
 have ac1:=Blk.at_ T2.out.2.1 1 rfl
 have ac2:=Blk.at_ T2.out.2.1 2 rfl
 have ac3:=Blk.at_ T2.out.2.1 3 rfl
 have ac4:=Blk.at_ T2.out.2.1 4 rfl
 have az:=Blk.lt T2.out.2.1
 have bc0:=Blk.at_ T2.out.2.2.1 0 rfl
 have bc1:=Blk.at_ T2.out.2.2.1 1 rfl
 have bc2:=Blk.at_ T2.out.2.2.1 2 rfl
 have bc3:=Blk.at_ T2.out.2.2.1 3 rfl
 have bc4:=Blk.at_ T2.out.2.2.1 4 rfl
 have bz:=Blk.lt T2.out.2.2.1
 cases xb
 ·exact J3
 have szb:sb.size<=4000:=HXb.out rfl
 go_wp2_with fail
 clear ac0 ac1 ac2 ac3 ac4 bc0 bc1 bc2 bc3 bc4 az bz
 refine (compare_any ka na fa sa ra kb nb fb sb rb _).mono ?_
 rintro e w3 ⟨⟨c,rfl⟩,o3⟩
 have T3:Hid _:=on3 T2.out o3
 clear o3
 have ac0:=Blk.at_ T3.out.2.1 0 rfl
 have ac1:=Blk.at_ T3.out.2.1 1 rfl
 have ac2:=Blk.at_ T3.out.2.1 2 rfl
 have ac3:=Blk.at_ T3.out.2.1 3 rfl
 have ac4:=Blk.at_ T3.out.2.1 4 rfl
 have az:=Blk.lt T3.out.2.1
 have bc0:=Blk.at_ T3.out.2.2.1 0 rfl
 have bc1:=Blk.at_ T3.out.2.2.1 1 rfl
 have bc2:=Blk.at_ T3.out.2.2.1 2 rfl
 have bc3:=Blk.at_ T3.out.2.2.1 3 rfl
 have bc4:=Blk.at_ T3.out.2.2.1 4 rfl
 have bz:=Blk.lt T3.out.2.2.1
 cases c3:(c==3)
 rotate_left
 ·exact J47
 go_upto_region 19 with (fail)
 go_cut [10] (fun v wd=>(∃b:Bool,v= .bool b)/\wd=w3)
 case first=>
  have hop:op=15\/op=16\/op=17\/op=18:=Zo
  have hc:c= -1\/c=0\/c=1\/c<=-2\/2<=c:=Zo
  have hb:∀k:Int,(op==k)=decide (op=k):=fun k=>by rw[Bool.eq_iff_iff];simp
  clear hb
  rcases hop with h|h|h|h <;> rcases hc with h'|h'|h'|h'|h'
  all_goals
   have e5:(op==15)=decide (op=15):=J294
   have e6:(op==16)=decide (op=16):=J294
   have e7:(op==17)=decide (op=17):=J294
   have e8:(op==18)=decide (op=18):=J294
   have g1:(c== -1)=decide (c= -1):=J294
   have g2:(c==0)=decide (c=0):=J294
   have g3:(c==1)=decide (c=1):=J294
   first|rw[decide_eq_true (show op=15 by omega)] at e5|rw[decide_eq_false (show¬op=15 by omega)] at e5
   first|rw[decide_eq_true (show op=16 by omega)] at e6|rw[decide_eq_false (show¬op=16 by omega)] at e6
   first|rw[decide_eq_true (show op=17 by omega)] at e7|rw[decide_eq_false (show¬op=17 by omega)] at e7
   first|rw[decide_eq_true (show op=18 by omega)] at e8|rw[decide_eq_false (show¬op=18 by omega)] at e8
   first|rw[decide_eq_true (show c= -1 by omega)] at g1|rw[decide_eq_false (show¬c= -1 by omega)] at g1
   first|rw[decide_eq_true (show c=0 by omega)] at g2|rw[decide_eq_false (show¬c=0 by omega)] at g2
   first|rw[decide_eq_true (show c=1 by omega)] at g3|rw[decide_eq_false (show¬c=1 by omega)] at g3
   have g4:decide (c<=0)=true\/decide (c<=0)=false:=by cases decide (c<=0) <;> simp
   clear h h'
   rcases g4 with g4|g4
  all_goals
   go_wp2_with fail
   go_meet
   case rel=>exact ⟨⟨_,rfl⟩,rfl⟩
 case rest=>
  obtain ⟨⟨b,rfl⟩,rfl⟩:=hcut
  exact J223
end Go.Proofs.YtlibofjbhhdjdaaGreat
