import Derived.Test.YtlibofjbhhdjdaaGreatQ
import Derived.Test.YtlibofjbhhdjdaaGreatP02
set_option linter.unusedSimpArgs false
set_option maxRecDepth 100000
set_option maxHeartbeats 16000000
namespace Go.Proofs.YtlibofjbhhdjdaaGreat
variable {r:Nat}
theorem log2_mul_pow (m k:Nat)(h:m≠0):(m*2^k).log2=m.log2+k:=by
 have h2:m*2^k≠0:=Nat.mul_ne_zero h (by have:=Nat.two_pow_pos k;omega)
 rw[Nat.log2_eq_iff h2]
 have a:=Nat.log2_self_le h
 have b:=(Nat.log2_lt h).1 (Nat.lt_succ_self m.log2)
 refine ⟨?_,?_⟩
 ·rw[Nat.pow_add];exact Nat.mul_le_mul_right _ a
 ·rw[show m.log2+k+1=(m.log2+1)+k by omega,Nat.pow_add]
  exact Nat.mul_lt_mul_of_pos_right b (Nat.two_pow_pos k)
def dbl:Ieee.Format:=FloatKind.f64.format
theorem read_eq (r:Nat):dbl.read r=if r%9223372036854775808 < 4503599627370496 then .number (r/9223372036854775808%2==1) (r%9223372036854775808) (-1074) else if r%9223372036854775808 < 9218868437227405312 then .number (r/9223372036854775808%2==1) (4503599627370496+r%9223372036854775808%4503599627370496) (-1074+((r%9223372036854775808/4503599627370496-1:Nat):Int)) else if r%9223372036854775808=9218868437227405312 then .infinity (r/9223372036854775808%2==1) else .nan (r/9223372036854775808%2==1) (r%9223372036854775808-9218868437227405312):=rfl
theorem read_sub (h:r < 4503599627370496):dbl.read r= .number false r (-1074):=by
 rw[read_eq,Nat.mod_eq_of_lt (by omega:r < 9223372036854775808),Nat.div_eq_of_lt (by omega:r < 9223372036854775808),if_pos h];rfl
theorem read_norm (h:4503599627370496<=r)(h2:r < 9218868437227405312):dbl.read r= .number false (4503599627370496+r%4503599627370496) (-1074+((r/4503599627370496-1:Nat):Int)):=by
 rw[read_eq,Nat.mod_eq_of_lt (by omega:r < 9223372036854775808),Nat.div_eq_of_lt (by omega:r < 9223372036854775808),if_neg Zo,if_pos h2];rfl
theorem read_two:dbl.read 4611686018427387904= .number false 4503599627370496 (-51):=rfl
theorem read_half:dbl.read 4602678819172646912= .number false 4503599627370496 (-53):=rfl
theorem lp:dbl.leastPlace= -1074:=rfl
theorem word_pos (x:Nat):dbl.word false x=x:=rfl
theorem read_pos (h0:1<=r)(h:r < 9218868437227405312):∃(m k:Nat),dbl.read r= .number false m (-1074+(k:Int))/\r=k*4503599627370496+m/\m < 9007199254740992/\1<=m/\(k=0\/4503599627370496<=m):=by
 by_cases hs:r < 4503599627370496
 ·exact ⟨r,0,by rw[read_sub hs];rfl,by omega,by omega,h0,Or.inl rfl⟩
 ·refine ⟨4503599627370496+r%4503599627370496,r/4503599627370496-1,read_norm Zo h,?_,?_,by omega,Or.inr Zo⟩ <;> omega
theorem cut_exact (n k:Nat)(hn:n≠0):Ieee.Toward.even.cut false (n*2^k) k=n:=by
 unfold Ieee.Toward.cut
 have hl:=log2_mul_pow n k hn
 simp only[hl]
 rw[show min k (n.log2+k+2)=k by omega,Nat.shiftLeft_eq,Nat.one_mul,Nat.mul_div_cancel _ (Nat.two_pow_pos k),Nat.mul_mod_left]
 have:=Nat.two_pow_pos k
 have e1:decide (2^k < 2*0)=false:=J269
 have e2:(2^k==2*0)=false:=J269
 rw[e1,e2]
 simp
theorem cut_le (n k:Nat)(hn:n≠0):n/2<=Ieee.Toward.even.cut false (n*2^k) (k+1)/\Ieee.Toward.even.cut false (n*2^k) (k+1)<=n/2+n%2:=by
 unfold Ieee.Toward.cut
 have hl:=log2_mul_pow n k hn
 simp only[hl]
 have hp:=Nat.two_pow_pos k
 rw[show min (k+1) (n.log2+k+2)=k+1 by omega,Nat.shiftLeft_eq,Nat.one_mul,Nat.pow_succ,Nat.mul_comm (2^k) 2,Nat.mul_div_mul_right _ _ hp,Nat.mul_mod_mul_right]
 refine ⟨Nat.le_add_right _ _,Nat.add_le_add_left ?_ _⟩
 rcases Nat.mod_two_eq_zero_or_one n with h|h
 ·rw[h,Nat.zero_mul]
  have e1:decide (2*2^k < 2*0)=false:=J269
  have e2:(2*2^k==2*0)=false:=by
   rw[beq_eq_false_iff_ne];omega
  rw[e1,e2]
  simp
 ·rw[h]
  exact Bool.toNat_le _
theorem nearest_eq {mag:Nat}{place last:Int}{a b q:Nat}(hm:mag≠0)(hl:max (place+(mag.log2:Int)-((52:Nat):Int)) (-1074)=last)(h1:(place-last).toNat=a)(h2:(last-place).toNat=b)(h3:(last-(-1074)).toNat=q):
  dbl.nearest false mag place=min (q*4503599627370496+Ieee.Toward.even.cut false (mag <<< a) b) 9218868437227405312:=by
 have e1:dbl.fractionBits=52:=rfl
 have e3:dbl.binade=4503599627370496:=rfl
 have e4:dbl.infRung=9218868437227405312:=rfl
 unfold Ieee.Format.nearest
 rw[if_neg hm,e1,lp,e3,e4]
 simp only[hl,h1,h2,h3]
 rw[word_pos]
theorem mul_number {r x m n:Nat}{i j:Int}(hr:dbl.read r= .number false m i)(hx:dbl.read x= .number false n j):dbl.mul r x=some (dbl.nearest false (m*n) (i+j)):=by
 unfold Ieee.Format.mul
 rw[hr,hx]
 rfl
theorem mul_two (h0:1<=r)(h:r < 9218868437227405312):∃r',dbl.mul r 4611686018427387904=some r'/\r < r'/\r'<=r+4503599627370496:=by
 obtain ⟨m,k,hr,hrm,hm,hm1,hk⟩:=read_pos h0 h
 have hl:(m*4503599627370496).log2=m.log2+52:=log2_mul_pow m 52 Zo
 refine ⟨_,mul_number hr read_two,?_⟩
 by_cases hn:4503599627370496<=m
 ·have hlog:m.log2=52:=(Nat.log2_eq_iff Zo).2 ⟨by omega,by omega⟩
  have hc:Ieee.Toward.even.cut false (m*4503599627370496) 52=m:=cut_exact m 52 Zo
  rw[nearest_eq (last:= -1074+(k:Int)+1) (a:=0) (b:=52) (q:=k+1) Zo Zo Zo Zo Zo,Nat.shiftLeft_zero,hc]
  omega
 ·have hk0:k=0:=Zo
  subst hk0
  have hlog:m.log2<=51:=by have:=(Nat.log2_lt (n:=m) (k:=52) Zo).2 Zo;omega
  have hc:Ieee.Toward.even.cut false (m*4503599627370496) 51=2*m:=by
   rw[show m*4503599627370496=(2*m)*2^51 by omega]
   exact cut_exact (2*m) 51 Zo
  rw[nearest_eq (last:= -1074) (a:=0) (b:=51) (q:=0) Zo Zo Zo Zo Zo,Nat.shiftLeft_zero,hc]
  omega
theorem mul_half (h0:2<=r)(h:r < 9218868437227405312):∃r',dbl.mul r 4602678819172646912=some r'/\1<=r'/\r' < r:=by
 obtain ⟨m,k,hr,hrm,hm,hm1,hk⟩:=read_pos Zo h
 have hl:(m*4503599627370496).log2=m.log2+52:=log2_mul_pow m 52 Zo
 refine ⟨_,mul_number hr read_half,?_⟩
 by_cases hk1:1<=k
 ·have hlog:m.log2=52:=(Nat.log2_eq_iff Zo).2 ⟨by omega,by omega⟩
  have hc:Ieee.Toward.even.cut false (m*4503599627370496) 52=m:=cut_exact m 52 Zo
  rw[nearest_eq (last:= -1074+(k:Int)-1) (a:=0) (b:=52) (q:=k-1) Zo Zo Zo Zo Zo,Nat.shiftLeft_zero,hc]
  omega
 ·have hk0:k=0:=Zo
  subst hk0
  have hlog:m.log2<=52:=by have:=(Nat.log2_lt (n:=m) (k:=53) Zo).2 Zo;omega
  obtain ⟨c1,c2⟩:=cut_le m 52 Zo
  have c1':m/2<=Ieee.Toward.even.cut false (m*4503599627370496) 53:=c1
  have c2':Ieee.Toward.even.cut false (m*4503599627370496) 53<=m/2+m%2:=c2
  rw[nearest_eq (last:= -1074) (a:=0) (b:=53) (q:=0) Zo Zo Zo Zo Zo,Nat.shiftLeft_zero]
  omega
theorem order_big (h0:4890909195324358656<=r)(h:r < 9218868437227405312):dbl.order r 4890909195324358656=some .gt\/dbl.order r 4890909195324358656=some .eq:=by
 unfold Ieee.Format.order
 rw[read_norm Zo h,show dbl.read 4890909195324358656= .number false 4503599627370496 11 from rfl]
 simp only[Ieee.Datum.order,Ieee.signed]
 obtain ⟨q,hq⟩:∃q,r/4503599627370496-1=1085+q:=⟨r/4503599627370496-1-1085,by omega⟩
 rw[hq]
 rw[show ((-1074+((1085+q:Nat):Int))-min (-1074+((1085+q:Nat):Int)) 11).toNat=q by omega,show ((11:Int)-min (-1074+((1085+q:Nat):Int)) 11).toNat=0 by omega]
 simp only[Bool.false_eq_true,if_false,Nat.shiftLeft_zero]
 have hge:(4503599627370496:Int)<=(((4503599627370496+r%4503599627370496) <<< q:Nat):Int):=by
  rw[Nat.shiftLeft_eq]
  have:=Nat.le_mul_of_pos_right (4503599627370496+r%4503599627370496) (Nat.two_pow_pos q)
  omega
 rcases Int.lt_or_eq_of_le hge with g|g
 ·left;exact congrArg some (Int.compare_eq_gt.2 g)
 ·right;rw[<-g];simp
end Go.Proofs.YtlibofjbhhdjdaaGreat
namespace Go.Proofs.YtlibofjbhhdjdaaGreat
open Go.RowKit
attribute [local go_sem] rsf
variable {n:Int}
def RangeI (n:Int):Prop:= -9223372036854775808<=n/\n<=9223372036854775807
def Vr (n:Int) (s:ByteArray):Prop:= -9223372036854775808<=n/\n<=9223372036854775807/\s.size<=4000
theorem Vr.num (h:RangeI n):Vr n {data:= #[]}:=⟨h.1,h.2,by decide⟩
theorem range_wrap (n:Int):RangeI (wrap64 n):=by unfold RangeI wrap64;omega
theorem range_bits (op:BinOp)(a b:Int):RangeI (bits op .i64 a b):=by
 have hw:∀e:Int,RangeI (IntKind.i64.wrap e):=fun e=>by
  unfold RangeI
  exact J194
 unfold bits
 split <;> exact hw _
theorem range_small (h0: -1<=n)(h1:n<=4000):RangeI n:=by unfold RangeI;omega
def IsV (v:Value):Prop:=∃(k n:Int) (f:Nat) (s:ByteArray) (r:Int),v= .agg #[.int .i64 k,.int .i64 n,.float .f64 f,.string s,.int .i64 r]/\Vr n s
def IsVd (v:Value):Prop:=∃(c k n:Int) (f:Nat) (s:ByteArray) (r:Int),v= .agg #[.int .i64 c,.int .i64 k,.int .i64 n,.float .f64 f,.string s,.int .i64 r]/\Vr n s
theorem l1bool_any (b:Bool)(w:World):Calls Tryz.prog 102 #[.bool b] w fun e w'=>(∃v,e= .returned v/\IsV v)/\Onw w w':=by
 cases b
 ·go_enter Tryz.func102,Tryz.ntmps102
  go_wp2
  exact bodyPost_ret (v:= .agg #[.int .i64 1,.int .i64 0,.float .f64 0,.string {data:= #[]},.int .i64 0]) (by simp[results,Tryz.results102,go_sem]) rfl ⟨⟨_,rfl,_,_,_,_,_,rfl,Vr.num (range_small Zo Zo)⟩,by first|exact Onw.refl _|exact Onw.alloc _ _|exact (Onw.alloc _ _).trans (Onw.alloc _ _)⟩
 ·go_enter Tryz.func102,Tryz.ntmps102
  go_wp2
  exact bodyPost_ret (v:= .agg #[.int .i64 1,.int .i64 1,.float .f64 0,.string {data:= #[]},.int .i64 0]) (by simp[results,Tryz.results102,go_sem]) rfl ⟨⟨_,rfl,_,_,_,_,_,rfl,Vr.num (range_small Zo Zo)⟩,by first|exact Onw.refl _|exact Onw.alloc _ _|exact (Onw.alloc _ _).trans (Onw.alloc _ _)⟩
theorem l1int_any (n:Int)(hr:RangeI n)(w:World):Calls Tryz.prog 103 #[.int .i64 n] w fun e w'=>(∃v,e= .returned v/\IsV v)/\Onw w w':=by
 go_enter Tryz.func103,Tryz.ntmps103
 go_wp2
 exact bodyPost_ret (v:= .agg #[.int .i64 2,.int .i64 n,.float .f64 0,.string {data:= #[]},.int .i64 0]) (by simp[results,Tryz.results103,go_sem]) rfl ⟨⟨_,rfl,_,_,_,_,_,rfl,Vr.num hr⟩,by first|exact Onw.refl _|exact Onw.alloc _ _|exact (Onw.alloc _ _).trans (Onw.alloc _ _)⟩
theorem l1flt_any (n:Nat)(w:World):Calls Tryz.prog 104 #[.float .f64 n] w fun e w'=>(∃v,e= .returned v/\IsV v)/\Onw w w':=by
 go_enter Tryz.func104,Tryz.ntmps104
 go_wp2
 exact bodyPost_ret (v:= .agg #[.int .i64 3,.int .i64 0,.float .f64 n,.string {data:= #[]},.int .i64 0]) (by simp[results,Tryz.results104,go_sem]) rfl ⟨⟨_,rfl,_,_,_,_,_,rfl,Vr.num (range_small Zo Zo)⟩,by first|exact Onw.refl _|exact Onw.alloc _ _|exact (Onw.alloc _ _).trans (Onw.alloc _ _)⟩
theorem l1str_any (n:ByteArray)(hz:n.size<=4000)(w:World):Calls Tryz.prog 105 #[.string n] w fun e w'=>(∃v,e= .returned v/\IsV v)/\Onw w w':=by
 go_enter Tryz.func105,Tryz.ntmps105
 go_wp2
 exact bodyPost_ret (v:= .agg #[.int .i64 4,.int .i64 0,.float .f64 0,.string n,.int .i64 0]) (by simp[results,Tryz.results105,go_sem]) rfl ⟨⟨_,rfl,_,_,_,_,_,rfl,by decide,by decide,hz⟩,by first|exact Onw.refl _|exact Onw.alloc _ _|exact (Onw.alloc _ _).trans (Onw.alloc _ _)⟩
theorem l1fail_any (n:Int)(w:World):Calls Tryz.prog 118 #[.int .i64 n] w fun e w'=>(∃v,e= .returned v/\IsVd v)/\Onw w w':=by
 go_enter Tryz.func118,Tryz.ntmps118
 go_wp2
 exact bodyPost_ret (v:= .agg #[.int .i64 n,.int .i64 0,.int .i64 0,.float .f64 0,.string {data:= #[]},.int .i64 0]) (by simp[results,Tryz.results118,go_sem]) rfl ⟨⟨_,rfl,_,_,_,_,_,_,rfl,Vr.num (range_small Zo Zo)⟩,by first|exact Onw.refl _|exact Onw.alloc _ _|exact (Onw.alloc _ _).trans (Onw.alloc _ _)⟩
theorem l1got_any (k n:Int)(f:Nat)(s:ByteArray)(r:Int)(hv:Vr n s)(w:World):Calls Tryz.prog 119 #[.agg #[.int .i64 k,.int .i64 n,.float .f64 f,.string s,.int .i64 r]] w fun e w'=>(∃v,e= .returned v/\IsVd v)/\Onw w w':=by
 go_enter Tryz.func119,Tryz.ntmps119
 go_wp2
 exact bodyPost_ret (v:= .agg #[.int .i64 0,.int .i64 k,.int .i64 n,.float .f64 f,.string s,.int .i64 r]) (by simp[results,Tryz.results119,go_sem]) rfl ⟨⟨_,rfl,_,_,_,_,_,_,rfl,hv⟩,by first|exact Onw.refl _|exact Onw.alloc _ _|exact (Onw.alloc _ _).trans (Onw.alloc _ _)⟩
theorem l1nan_any (f:Nat)(w:World):Calls Tryz.prog 132 #[.float .f64 f] w fun e w'=>e= .returned (.bool (FloatKind.f64.format.order f f !=some .eq))/\Onw w w':=by
 go_enter Tryz.func132,Tryz.ntmps132
 go_wp2
 exact J139
theorem l1num_any (k n:Int)(f:Nat)(s:ByteArray)(r:Int)(w:World):Calls Tryz.prog 125 #[.agg #[.int .i64 k,.int .i64 n,.float .f64 f,.string s,.int .i64 r]] w fun e w'=>e= .returned (.bool (k==2||k==3))/\Onw w w':=by
 go_enter Tryz.func125,Tryz.ntmps125
 go_wp2
 all_goals go_ret
 all_goals exact ⟨rtb (by simp_all),by first|exact Onw.refl _|exact Onw.alloc _ _⟩
theorem l1asflt_any (k n:Int)(f:Nat)(s:ByteArray)(r:Int)(w:World):Calls Tryz.prog 127 #[.agg #[.int .i64 k,.int .i64 n,.float .f64 f,.string s,.int .i64 r]] w fun e w'=>(∃b,e= .returned (.float .f64 b))/\Onw w w':=by
 go_enter Tryz.func127,Tryz.ntmps127
 go_wp2
 all_goals go_ret
 all_goals exact ⟨⟨_,rfl⟩,by first|exact Onw.refl _|exact Onw.alloc _ _⟩
theorem l1zero_any (k n:Int)(f:Nat)(s:ByteArray)(r:Int)(w:World)(o p t q:Bool)(hc:(o,p,t,q)∈ [(false,false,false,false),(true,false,false,false),(false,true,false,false),(false,false,true,false),(false,false,false,true)]):
  Calls Tryz.prog 128 #[.agg #[.int .i64 k,.int .i64 n,.float .f64 f,.string s,.int .i64 r],.bool o,.bool p,.bool t,.bool q] w fun e w'=>∃x,e= .returned (.bool x)/\Onw w w'/\(x=true->t=false->s.toList= []):=by
 simp only[List.mem_cons,Prod.mk.injEq,List.mem_nil_iff,or_false] at hc
 rcases hc with ⟨rfl,rfl,rfl,rfl⟩|⟨rfl,rfl,rfl,rfl⟩|⟨rfl,rfl,rfl,rfl⟩|⟨rfl,rfl,rfl,rfl⟩|⟨rfl,rfl,rfl,rfl⟩
 all_goals
  go_enter Tryz.func128,Tryz.ntmps128
  go_wp2
  all_goals go_ret
  all_goals exact ⟨_,rfl,by first|exact Onw.refl _|exact Onw.alloc _ _,by simp_all⟩
theorem size_nil {s:ByteArray}(h:s.toList= []):s.size=0:=by
 rw[ByteArray.toList_eq] at h
 show s.data.size=0
 rw[<-Array.length_toList,h]
 rfl
def RetB (e:Ending) (q:Bool->Prop):Prop:=∃x,e= .returned (.bool x)/\q x
theorem valueOk_any (k n : Int)(f : Nat)(s : ByteArray)(r : Int)(w : World):
    Calls Tryz.prog 117 #[.agg #[.int .i64 k, .int .i64 n, .float .f64 f, .string s, .int .i64 r]] w fun e w' => RetB e (fun x => x = true -> s.size <= 4000) /\ Onw w w' := by
  go_enter Tryz.func117, Tryz.ntmps117
  go_wp2_with fail
  all_goals first
    | (go_ret; exact ⟨⟨_, rfl, fun h => by simp at h⟩, Onw.alloc _ _⟩)
    | (refine (l1zero_any k n f s r _ _ _ _ _ J269).mono ?_
       rintro e w1 ⟨x, rfl, o1, hx⟩
       have N1 := (Blk.new w 153 #[.int .i64 k, .int .i64 n, .float .f64 f, .string s, .int .i64 r]).onw o1
       have O1 : Hid _ := (Onw.alloc _ _).trans o1
       have c1 := Blk.at_ N1 1 rfl
       have c3 := Blk.at_ N1 3 rfl
       have c4 := Blk.at_ N1 4 rfl
       have z1 := N1.lt
       have HX : Hid _ := hx
       clear hx o1
       cases x
       · go_wp2_with fail
         all_goals go_ret
         all_goals exact ⟨⟨_, rfl, fun h => by simp at h⟩, O1.out⟩
       · go_wp2_with fail
         all_goals go_ret
         all_goals exact ⟨⟨_, rfl, fun h => by first | (have := size_nil (HX.out rfl rfl); omega) | (have := size_nil (HX.out trivial trivial); omega) | (simp at h; omega)⟩, O1.out⟩)
theorem truth_any (k n:Int)(f:Nat)(s:ByteArray)(r:Int)(w:World):
  Calls Tryz.prog 109 #[.agg #[.int .i64 k,.int .i64 n,.float .f64 f,.string s,.int .i64 r]] w fun e w'=>(∃x,e= .returned (.bool x))/\Onw w w':=by
 go_enter Tryz.func109,Tryz.ntmps109
 go_wp2_with fail
 refine (valueOk_any k n f s r _).mono ?_
 rintro e w1 ⟨⟨x,rfl,hx⟩,o1⟩
 have N1:=(Blk.new w 153 #[.int .i64 k,.int .i64 n,.float .f64 f,.string s,.int .i64 r]).onw o1
 have O1:Hid _:=(Onw.alloc _ _).trans o1
 have c0:=Blk.at_ N1 0 rfl
 have c1:=Blk.at_ N1 1 rfl
 have z1:=N1.lt
 clear hx o1
 cases x
 ·exact J123
 ·exact J123
theorem l1joins_any (k n:Int)(f:Nat)(s:ByteArray)(r:Int)(w:World):Calls Tryz.prog 120 #[.agg #[.int .i64 k,.int .i64 n,.float .f64 f,.string s,.int .i64 r]] w fun e w'=>(∃b,e= .returned (.bool b))/\Onw w w':=by
 go_enter Tryz.func120,Tryz.ntmps120
 go_wp2_with fail
 refine (l1num_any k n f s r _).mono ?_
 rintro e w1 ⟨rfl,o1⟩
 generalize (k==2||k==3)=x
 have N1:=(Blk.new w 153 #[.int .i64 k,.int .i64 n,.float .f64 f,.string s,.int .i64 r]).onw o1
 have O1:Hid _:=(Onw.alloc _ _).trans o1
 have c0:=Blk.at_ N1 0 rfl
 have z1:=N1.lt
 clear o1
 cases x
 ·exact J123
 ·exact J123
end Go.Proofs.YtlibofjbhhdjdaaGreat
namespace Go.Proofs.YtlibofjbhhdjdaaGreat
open Go.RowKit
variable {op:BinOp} {w:World}
def flR (op:BinOp) (x y:Nat) (w:World):Nat:=match floatBits op .f64 x y with|some q=>q|none=>(Question.nanBits .f64 x y).cut (w.tape w.drawn (Question.nanBits .f64 x y))
def flD (op:BinOp) (x y:Nat) (w:World):World:=match floatBits op .f64 x y with|some _=>w|none=>w.drew
theorem flR_some {x y q:Nat}(h:floatBits op .f64 x y=some q):flR op x y w=q:=by unfold flR;rw[h]
theorem flD_some {x y q:Nat}(h:floatBits op .f64 x y=some q):flD op x y w=w:=by unfold flD;rw[h]
theorem flD_onw (op:BinOp)(x y:Nat)(w:World):Onw w (flD op x y w):=by
 unfold flD
 cases floatBits op .f64 x y
 ·exact Below.drew (Onw.refl w)
 ·exact Onw.refl w
theorem run_fl (P:Program)(op:BinOp)(hop:op= .add\/op= .sub\/op= .mul\/op= .quo)(t:TypeId)(x y:Nat)(w:World):(binOp op t (.float .f64 x) (.float .f64 y)).run P w= .ok (.float .f64 (flR op x y w)) (flD op x y w):=by
 unfold flR flD
 cases h:floatBits op .f64 x y with
 |some q=>exact run_float_arith w op t .f64 x y q h
 |none=>
  have e:(choose (Question.nanBits .f64 x y)).run P w= .ok ((Question.nanBits .f64 x y).cut (w.tape w.drawn (Question.nanBits .f64 x y))) w.drew:=by
   rw[run_choose_drew];rfl
  unfold floatBits at h
  rcases hop with rfl|rfl|rfl|rfl <;> simp only at h <;> simp[binOp,Op.floatArith,h]
  all_goals (intro h2;simp[Question.forced] at h2)
theorem run_fl_add (P:Program)(t:TypeId)(x y:Nat)(w:World):(binOp .add t (.float .f64 x) (.float .f64 y)).run P w= .ok (.float .f64 (flR .add x y w)) (flD .add x y w):=run_fl P .add J269 t x y w
theorem run_fl_sub (P:Program)(t:TypeId)(x y:Nat)(w:World):(binOp .sub t (.float .f64 x) (.float .f64 y)).run P w= .ok (.float .f64 (flR .sub x y w)) (flD .sub x y w):=run_fl P .sub J269 t x y w
theorem run_fl_mul (P:Program)(t:TypeId)(x y:Nat)(w:World):(binOp .mul t (.float .f64 x) (.float .f64 y)).run P w= .ok (.float .f64 (flR .mul x y w)) (flD .mul x y w):=run_fl P .mul J269 t x y w
theorem run_fl_quo (P:Program)(t:TypeId)(x y:Nat)(w:World):(binOp .quo t (.float .f64 x) (.float .f64 y)).run P w= .ok (.float .f64 (flR .quo x y w)) (flD .quo x y w):=run_fl P .quo J269 t x y w
def cvR (b:Nat) (w:World):Int:=match floatToIntVal .f64 b .i64 with|some n=>n|none=>IntKind.i64.wrap ((Question.floatToInt .f64 b .i64).cut (w.tape w.drawn (Question.floatToInt .f64 b .i64)))
def cvD (b:Nat) (w:World):World:=match floatToIntVal .f64 b .i64 with|some _=>w|none=>w.drew
theorem cvD_onw (b:Nat)(w:World):Onw w (cvD b w):=by
 unfold cvD
 cases floatToIntVal .f64 b .i64
 ·exact Below.drew (Onw.refl w)
 ·exact Onw.refl w
theorem run_cv (b:Nat)(w:World):(convert 62 2 (.float .f64 b)).run Tryz.prog w= .ok (.int .i64 (cvR b w)) (cvD b w):=by
 unfold cvR cvD
 have hs:(Tryz.prog.underlying 62).isSome=true:=by kernel_rfl
 have hd:Tryz.prog.underlying 2=some (.int .i64):=by kernel_rfl
 cases h:floatToIntVal .f64 b .i64 with
 |some n=>exact run_convert_float_int w 62 2 .f64 .i64 b n hs hd h
 |none=>
  have e:(choose (Question.floatToInt .f64 b .i64)).run Tryz.prog w= .ok ((Question.floatToInt .f64 b .i64).cut (w.tape w.drawn (Question.floatToInt .f64 b .i64))) w.drew:=by
   rw[run_choose_drew];rfl
  obtain ⟨u,hs'⟩:=Option.isSome_iff_exists.1 hs
  unfold floatToIntVal at h
  have any:(Conv.floatToInt .f64 b .i64).run Tryz.prog w= .ok (.int .i64 (IntKind.i64.wrap ((Question.floatToInt .f64 b .i64).cut (w.tape w.drawn (Question.floatToInt .f64 b .i64))))) w.drew:=by
   unfold Conv.floatToInt
   cases hm:(FloatKind.f64.decode b).toInt .zero with
   |none=>simp[Question.forced]
   |some m=>
    rw[hm] at h
    simp only at h
    split at h
    ·cases h
    ·rename_i hb
     simp[Question.forced]
     exact fun h1 h2=>absurd ⟨h1,h2⟩ hb
  cases u <;> simp[convert,run_underlying hs',run_underlying hd,any]
end Go.Proofs.YtlibofjbhhdjdaaGreat
namespace Go.Proofs.YtlibofjbhhdjdaaGreat
open Go.RowKit
attribute [local go_sem] rsf run_fl_add run_fl_sub run_fl_mul run_fl_quo run_cv
variable {f:Nat}
def bigB (f:Nat):Bool:=FloatKind.f64.format.order f 4890909195324358656==some .gt||FloatKind.f64.format.order f 4890909195324358656==some .eq
theorem l1floor_any (f:Nat)(w:World):Calls Tryz.prog 135 #[.float .f64 f] w fun e w'=>(∃g,e= .returned (.float .f64 g)/\(bigB f=true->g=f))/\Onw w w':=by
 go_enter Tryz.func135,Tryz.ntmps135
 go_wp2_with fail
 refine (l1nan_any f _).mono ?_
 rintro e w1 ⟨rfl,o1⟩
 have O1:Hid _:=o1
 clear o1
 cases h1:(FloatKind.f64.format.order f f !=some .eq)
 ·cases h2:(FloatKind.f64.format.order f 0==some .eq)
  ·cases h3:(FloatKind.f64.format.order f 4890909195324358656==some .gt||FloatKind.f64.format.order f 4890909195324358656==some .eq)
   ·cases h4:(FloatKind.f64.format.order f 14114281232179134464==some .lt||FloatKind.f64.format.order f 14114281232179134464==some .eq)
    ·go_wp2_with fail
     all_goals go_ret
     all_goals exact ⟨⟨_,rfl,fun hb=>by rw[bigB,h3] at hb;cases hb⟩,by first|exact O1.out|exact Onw.trans O1.out (cvD_onw _ _)|exact Onw.trans (Onw.trans O1.out (cvD_onw _ _)) (flD_onw _ _ _ _)⟩
    ·exact J101
   ·exact J101
  ·exact J101
 ·exact J101
theorem cv_one (h:dbl.read f= .number false 1 (-1074))(w:World):cvR f w=0/\cvD f w=w:=by
 have e:floatToIntVal .f64 f .i64=some 0:=by
  unfold floatToIntVal FloatKind.decode
  rw[show FloatKind.f64.format.read f= .number false 1 (-1074) from h]
  rfl
 unfold cvR cvD
 rw[e]
 exact ⟨rfl,rfl⟩
theorem order_tiny (h:dbl.read f= .number false 1 (-1074)):FloatKind.f64.format.order f f=some .eq/\FloatKind.f64.format.order f 0=some .gt/\FloatKind.f64.format.order 0 f=some .lt/\bigB f=false/\(FloatKind.f64.format.order f 14114281232179134464==some .lt||FloatKind.f64.format.order f 14114281232179134464==some .eq)=false:=by
 have h':FloatKind.f64.format.read f= .number false 1 (-1074):=h
 unfold bigB Ieee.Format.order
 rw[h']
 refine ⟨by simp[Ieee.Datum.order],?_,?_,?_,?_⟩ <;> kernel_rfl
theorem l1floor_tiny (f:Nat)(w:World)(h:dbl.read f= .number false 1 (-1074)):Calls Tryz.prog 135 #[.float .f64 f] w fun e w'=>e= .returned (.float .f64 0)/\Onw w w':=by
 obtain ⟨a1,a2,a3,a4,a5⟩:=order_tiny h
 have c1:=fun w=>(cv_one h w).1
 have c2:=fun w=>(cv_one h w).2
 have h1:(FloatKind.f64.format.order f f !=some .eq)=false:=by rw[a1];rfl
 have h2:(FloatKind.f64.format.order f 0==some .eq)=false:=by rw[a2];rfl
 have h3:(FloatKind.f64.format.order f 4890909195324358656==some .gt||FloatKind.f64.format.order f 4890909195324358656==some .eq)=false:=a4
 have h5:(FloatKind.f64.format.order 0 f==some .gt)=false:=by rw[a3];rfl
 have fz:floatOfInt .f64 0=0:=by kernel_rfl
 clear h a1 a2 a3 a4
 go_enter Tryz.func135,Tryz.ntmps135
 go_wp2_with fail
 refine (l1nan_any f _).mono ?_
 rintro e w1 ⟨rfl,o1⟩
 go_wp2_with fail
 all_goals go_ret
 all_goals exact ⟨by first|rfl|(simp[*];done),by first|exact o1|exact Onw.trans o1 (cvD_onw _ _)⟩
end Go.Proofs.YtlibofjbhhdjdaaGreat
namespace Go.Proofs.YtlibofjbhhdjdaaGreat
open Go.RowKit
variable {f:Nat}
def rung (f:Nat):Nat:=f%9223372036854775808
def sgn (f:Nat):Nat:=f/9223372036854775808%2
theorem rung_neg (f:Nat):rung (f ^^^ 9223372036854775808)=rung f/\sgn (f ^^^ 9223372036854775808)=1-sgn f:=by
 have e:f ^^^ 9223372036854775808=f ^^^ 2^63:=rfl
 have h1:(f ^^^ 2^63)%2^63=f%2^63:=by
  rw[Nat.xor_mod_two_pow]
  simp
 have h2:(f ^^^ 2^63)/2^63=f/2^63 ^^^ 1:=by
  rw[Nat.xor_div_two_pow]
 refine ⟨?_,?_⟩
 ·unfold rung;rw[e];exact h1
 ·unfold sgn
  rw[e]
  show (f ^^^ 2^63)/2^63%2=1-f/2^63%2
  rw[h2]
  generalize f/2^63=q
  have:(q ^^^ 1)%2=(q%2) ^^^ 1:=by
   have:=Nat.xor_mod_two_pow (a:=q) (b:=1) (n:=1)
   simpa using this
  rw[this]
  have:q%2=0\/q%2=1:=Zo
  rcases this with h|h <;> rw[h] <;> rfl
theorem read_rung (h:sgn f=0):dbl.read f=dbl.read (rung f):=by
 rw[read_eq f,read_eq (rung f)]
 unfold sgn at h
 unfold rung
 have e1:f%9223372036854775808%9223372036854775808=f%9223372036854775808:=Zo
 have e2:f%9223372036854775808/9223372036854775808%2=0:=Zo
 rw[e1,e2,h]
def Pos (f:Nat):Prop:=sgn f=0/\1<=rung f/\rung f < 9218868437227405312
theorem Pos.of {r:Nat}(h1:1<=r)(h2:r < 9218868437227405312):Pos r/\rung r=r:=by
 unfold Pos sgn rung
 omega
theorem mul_read {f g x:Nat}(h:dbl.read f=dbl.read g):dbl.mul f x=dbl.mul g x:=by
 unfold Ieee.Format.mul;rw[h]
theorem order_read {f g x:Nat}(h:dbl.read f=dbl.read g):dbl.order f x=dbl.order g x:=by
 unfold Ieee.Format.order;rw[h]
theorem pos_two (h:Pos f):∃r',dbl.mul f 4611686018427387904=some r'/\rung f < r'/\r'<=rung f+4503599627370496:=by
 rw[mul_read (read_rung h.1)]
 exact mul_two h.2.1 h.2.2
theorem pos_half (h:Pos f)(h2:2<=rung f):∃r',dbl.mul f 4602678819172646912=some r'/\1<=r'/\r' < rung f:=by
 rw[mul_read (read_rung h.1)]
 exact mul_half h2 h.2.2
theorem pos_big (h:Pos f)(hb:bigB f=false):rung f < 4890909195324358656:=by
 apply Decidable.byContradiction
 intro hn
 have e:=order_read (x:=4890909195324358656) (read_rung h.1)
 have:=order_big (r:=rung f) Zo h.2.2
 unfold bigB at hb
 have e':FloatKind.f64.format.order f 4890909195324358656=dbl.order (rung f) 4890909195324358656:=e
 rw[e'] at hb
 rcases this with h|h <;> rw[h] at hb <;> simp at hb
theorem pos_tiny (h:Pos f)(h1:rung f=1):dbl.read f= .number false 1 (-1074):=by
 rw[read_rung h.1,h1]
 rfl
end Go.Proofs.YtlibofjbhhdjdaaGreat
namespace Go.Proofs.YtlibofjbhhdjdaaGreat
open Go.RowKit
attribute [local go_sem] rsf run_fl_add run_fl_sub run_fl_mul run_fl_quo run_cv
def RetI (e:Ending):Prop:=∃n:Int,e= .returned (.int .i64 n)
theorem l1strings_any (a b:ByteArray)(w:World)(ha:a.size<=16777216)(_hb:b.size<=16777216):Calls Tryz.prog 131 #[.string a,.string b] w fun e w'=>RetI e/\Onw w w':=by
 go_enter Tryz.func131,Tryz.ntmps131
 go_wp2_with fail
 go_loopw [5] (fun i wr=>∃k:Nat,k<=a.size/\i= .int .i64 k/\Onw w wr) (fun i _=>a.size-(intOf i).toNat)
 case atStart=>exact ⟨0,Nat.zero_le _,rfl,Onw.refl _⟩
 case round=>
  obtain ⟨k,hk,rfl,ob⟩:=hrel
  by_cases h1:k < a.size
  ·have d1:decide ((k:Int) < (a.size:Int))=true:=decide_eq_true Zo
   have i1:(k:Int) < (a.size:Int):=Zo
   by_cases h2:k < b.size
   ·have d2:decide ((k:Int) < (b.size:Int))=true:=decide_eq_true Zo
    have i2:(k:Int) < (b.size:Int):=Zo
    go_wp2_with fail
    go_quiet (fail)
    go_wp2_with fail
    ·go_ret
     exact ⟨⟨_,rfl⟩,below_drewN ob _⟩
    ·go_quiet (fail)
     go_wp2_with fail
     ·go_ret
      exact ⟨⟨_,rfl⟩,by first|exact below_drewN (below_drewN ob _) _|exact below_drewN ob _⟩
     ·go_roundw
      case rel=>exact ⟨k+1,by omega,by go_num,by first|exact below_drewN (below_drewN ob _) _|exact below_drewN ob _⟩
      case measure=>simp[intOf];omega
   ·have d2:decide ((k:Int) < (b.size:Int))=false:=decide_eq_false Zo
    exact J181
  ·have d1:decide ((k:Int) < (a.size:Int))=false:=decide_eq_false Zo
   exact J181
theorem l1intflt_any (i : Int)(f : Nat)(w : World): Calls Tryz.prog 133 #[.int .i64 i, .float .f64 f] w fun e w' => RetI e /\ Onw w w' := by
  go_enter Tryz.func133, Tryz.ntmps133
  go_wp2_with fail
  all_goals first
    | (go_ret; exact ⟨⟨_, rfl⟩, Onw.refl _⟩)
    | (refine (l1floor_any f _).mono ?_
       rintro e w1 ⟨⟨g, rfl, hx⟩, o1⟩
       clear hx
       have O1 : Hid (Onw w w1) := o1
       clear o1
       go_wp2_with fail
       all_goals go_ret
       all_goals exact ⟨⟨_, rfl⟩, by first | exact Onw.trans O1.out (cvD_onw _ _) | exact O1.out⟩)
theorem l1quot_any (a b:Int)(w:World)(hb:b≠0):Calls Tryz.prog 134 #[.int .i64 a,.int .i64 b] w fun e w'=>(∃n:Int,e= .returned (.int .i64 n)/\RangeI n)/\Onw w w':=by
 have hz:(b==0)=false:=by simpa using hb
 go_enter Tryz.func134,Tryz.ntmps134
 go_wp2_with fail
 all_goals go_ret
 all_goals exact ⟨⟨_,rfl,range_wrap _⟩,Onw.refl _⟩
end Go.Proofs.YtlibofjbhhdjdaaGreat
namespace Go.Proofs.YtlibofjbhhdjdaaGreat
open Go.RowKit
attribute [local go_sem] rsf
def RetS (e:Ending) (m:Nat):Prop:=∃s:ByteArray,e= .returned (.string s)/\s.size<=m
theorem pow_small {k:Nat}{n:Int}(h:(10:Int)^k<=n)(h1:n<=9223372036854775807):k<=18:=by
 exact J111
theorem decimal_pos (n:Int)(w:World)(h0:0<=n)(h1:n<=9223372036854775807):Calls Tryz.prog 129 #[.int .i64 n] w fun e w'=>RetS e 19/\Onw w w':=by
 have k0:(n== -9223372036854775808)=false:=Zd
 have k1:decide (n < 0)=false:=decide_eq_false Zo
 go_enter Tryz.func129,Tryz.ntmps129
 go_wp2_with fail
 go_loopw [0,3] (fun nv sv wr=>∃(m:Int) (s:ByteArray),nv= .int .i64 m/\sv= .string s/\0<=m/\m<=9223372036854775807/\(s.size=0\/(s.size<=18/\1<=m))/\m*10^s.size<=n/\Onw w wr) (fun nv _ _=>(intOf nv).toNat)
 case atStart=>exact ⟨n,_,rfl,rfl,h0,h1,Or.inl rfl,by show n*10^0<=n;simp,Onw.refl _⟩
 case round=>
  obtain ⟨m,s,rfl,rfl,hm0,hm1,hsz,hle,ob⟩:=hrel
  have HLE:Hid _:=hle
  have HSZ:Hid _:=hsz
  clear hle hsz k0 k1
  have hcv:Sem.run Tryz.prog (convert 116 9 (.slice (some ⟨wr.heap.size,0,none⟩) 1 1)) (wr.alloc (Obj.cells #[.int .u8 (48+m%10)] 5))= .ok (.string (ByteArray.empty.push (UInt8.ofNat (48+m%10).toNat))) (wr.alloc (Obj.cells #[.int .u8 (48+m%10)] 5)):=by
   exact J74
  have ssz:s.size<=18:=by have:=HSZ.out;omega
  cases hz:(m/10==0)
  ·have hm10:1<=m/10:=by rw[beq_eq_false_iff_ne] at hz;omega
   have HM:Hid ((m/10)*10^(1+s.size)<=n):=by
    exact J90
   have HS18:Hid (1+s.size<=18):=by
    show _<=_
    have h2:(10:Int)^(1+s.size)<=n:=by
     have h3:(0:Int)<=10^(1+s.size):=Int.pow_nonneg Zo
     have h4:=Int.mul_le_mul_of_nonneg_right hm10 h3
     have h5:=HM.out
     omega
    exact pow_small h2 h1
   go_wp2_with fail
   go_roundw
   case rel=>
    have e:(ByteArray.empty.push (UInt8.ofNat (48+m%10).toNat)++s).size=1+s.size:=by rw[ByteArray.size_append];rfl
    exact ⟨m/10,_,rfl,rfl,by omega,by omega,Or.inr ⟨by rw[e];exact HS18.out,hm10⟩,by rw[e];exact HM.out,ob.trans (Onw.alloc _ _)⟩
   case measure=>simp[intOf];omega
  ·go_wp2_with fail
   go_ret
   refine ⟨⟨_,rfl,?_⟩,ob.trans (Onw.alloc _ _)⟩
   have e:(ByteArray.empty.push (UInt8.ofNat (48+m%10).toNat)++s).size=1+s.size:=by rw[ByteArray.size_append];rfl
   rw[e];omega
theorem decimal_any (n:Int)(w:World)(h0: -9223372036854775808<=n)(h1:n<=9223372036854775807):Calls Tryz.prog 129 #[.int .i64 n] w fun e w'=>RetS e 20/\Onw w w':=by
 by_cases hp:0<=n
 ·refine (decimal_pos n w hp h1).mono ?_
  rintro e w' ⟨⟨s,rfl,hs⟩,o⟩
  exact ⟨⟨s,rfl,by omega⟩,o⟩
 ·cases k0:(n== -9223372036854775808)
  ·have k0':n≠-9223372036854775808:=by simpa using k0
   have k1:decide (n < 0)=true:=decide_eq_true Zo
   go_enter Tryz.func129,Tryz.ntmps129
   go_wp2_with fail
   refine (decimal_pos (-n) _ Zo Zo).mono ?_
   rintro e w' ⟨⟨s,rfl,hs⟩,o⟩
   have O:Hid _:=o
   clear o
   go_wp2_with fail
   go_ret
   exact ⟨⟨_,rfl,by rw[ByteArray.size_append];show 1+s.size<=20;omega⟩,O.out⟩
  ·go_enter Tryz.func129,Tryz.ntmps129
   go_wp2_with fail
   go_ret
   exact ⟨⟨_,rfl,by decide⟩,Onw.refl _⟩
end Go.Proofs.YtlibofjbhhdjdaaGreat
namespace Go.Proofs.YtlibofjbhhdjdaaGreat
open Go.RowKit
variable {f:Nat}
theorem nan_rung (h:(FloatKind.f64.format.order f f !=some .eq)=false):rung f<=9218868437227405312:=by
 apply Decidable.byContradiction
 intro hn
 have e:dbl.read f= .nan (f/9223372036854775808%2==1) (f%9223372036854775808-9218868437227405312):=by
  unfold rung at hn
  show (if f%9223372036854775808 < 4503599627370496 then _ else if f%9223372036854775808 < 9218868437227405312 then _ else if f%9223372036854775808=9218868437227405312 then _ else _)=_
  rw[if_neg Zo,if_neg Zo,if_neg Zo]
  rfl
 have e2:FloatKind.f64.format.order f f=none:=by
  show (dbl.read f).order (dbl.read f)=none
  rw[e];rfl
 rw[e2] at h
 simp at h
theorem read_inf (h:rung f=9218868437227405312):dbl.read f= .infinity (f/9223372036854775808%2==1):=by
 unfold rung at h
 show (if f%9223372036854775808 < 4503599627370496 then _ else if f%9223372036854775808 < 9218868437227405312 then _ else if f%9223372036854775808=9218868437227405312 then _ else _)=_
 rw[if_neg Zo,if_neg Zo,if_pos h]
 rfl
theorem read_zero (h:rung f=0):dbl.read f= .number (f/9223372036854775808%2==1) 0 (-1074):=by
 unfold rung at h
 rw[read_eq,if_pos Zo,h]
theorem read_zero0:dbl.read 0= .number false 0 (-1074):=rfl
theorem order0_zero (h:rung f=0):FloatKind.f64.format.order f 0=some .eq:=by
 show (dbl.read f).order (dbl.read 0)=_
 rw[read_zero h,read_zero0]
 cases (f/9223372036854775808%2==1) <;> rfl
theorem read_some (h0:1<=rung f)(h:rung f < 9218868437227405312):∃(m k:Nat),dbl.read f= .number (f/9223372036854775808%2==1) m (-1074+(k:Int))/\1<=m:=by
 unfold rung at h0 h
 rw[read_eq]
 by_cases e:f%9223372036854775808 < 4503599627370496
 ·rw[if_pos e];exact ⟨_,0,rfl,h0⟩
 ·rw[if_neg e,if_pos h];exact ⟨_,_,rfl,by omega⟩
theorem order0_pos (hs:sgn f=0)(h0:1<=rung f)(h:rung f<=9218868437227405312):FloatKind.f64.format.order f 0=some .gt:=by
 show (dbl.read f).order (dbl.read 0)=_
 unfold sgn at hs
 by_cases e:rung f=9218868437227405312
 ·rw[read_inf e,read_zero0,hs];rfl
 ·obtain ⟨m,k,hr,hm⟩:=read_some h0 Zo
  rw[hr,read_zero0,hs]
  simp only[Ieee.Datum.order,Ieee.signed]
  have e1:(-1074+(k:Int)-min (-1074+(k:Int)) (-1074)).toNat=k:=Zo
  have e2:((-1074:Int)-min (-1074+(k:Int)) (-1074)).toNat=0:=Zo
  rw[e1,e2]
  have:1<=m <<< k:=by rw[Nat.shiftLeft_eq];have:=Nat.two_pow_pos k;exact Nat.le_trans hm (Nat.le_mul_of_pos_right m this)
  rw[show ((0:Nat)==1)=false from rfl]
  simp only[Bool.false_eq_true,if_false,Nat.shiftLeft_zero]
  exact congrArg some (Int.compare_eq_gt.2 Zo)
theorem order0_neg (hs:sgn f=1)(h0:1<=rung f)(h:rung f<=9218868437227405312):FloatKind.f64.format.order f 0=some .lt:=by
 show (dbl.read f).order (dbl.read 0)=_
 unfold sgn at hs
 by_cases e:rung f=9218868437227405312
 ·rw[read_inf e,read_zero0,hs];rfl
 ·obtain ⟨m,k,hr,hm⟩:=read_some h0 Zo
  rw[hr,read_zero0,hs]
  simp only[Ieee.Datum.order,Ieee.signed]
  have e1:(-1074+(k:Int)-min (-1074+(k:Int)) (-1074)).toNat=k:=Zo
  have e2:((-1074:Int)-min (-1074+(k:Int)) (-1074)).toNat=0:=Zo
  rw[e1,e2]
  have:1<=m <<< k:=by rw[Nat.shiftLeft_eq];have:=Nat.two_pow_pos k;exact Nat.le_trans hm (Nat.le_mul_of_pos_right m this)
  rw[show ((1:Nat)==1)=true from rfl]
  simp only[Bool.false_eq_true,if_true,if_false,Nat.shiftLeft_zero]
  exact congrArg some (Int.compare_eq_lt.2 Zo)
theorem pos_self (h:Pos f):FloatKind.f64.format.order f f=some .eq:=by
 show (dbl.read f).order (dbl.read f)=_
 obtain ⟨m,k,hr,hm⟩:=read_some h.2.1 h.2.2
 rw[hr]
 simp[Ieee.Datum.order]
theorem inf_half (hs:sgn f=0)(h:rung f=9218868437227405312):dbl.mul f 4602678819172646912=some 9218868437227405312/\FloatKind.f64.format.order 9218868437227405312 f=some .eq:=by
 have e:dbl.read f=dbl.read 9218868437227405312:=by rw[read_rung hs,h]
 refine ⟨?_,?_⟩
 ·rw[mul_read e];kernel_rfl
 ·show (dbl.read 9218868437227405312).order (dbl.read f)=_
  rw[e];kernel_rfl
theorem cv_range (f:Nat)(w:World): -9223372036854775808<=cvR f w/\cvR f w<=9223372036854775807:=by
 unfold cvR
 cases h:floatToIntVal .f64 f .i64 with
 |some n=>
  unfold floatToIntVal at h
  split at h
  ·split at h
   ·rename_i hb
    simp only[Option.some.injEq] at h
    subst h
    exact hb
   ·cases h
  ·cases h
 |none=>
  simp only
  exact J194
end Go.Proofs.YtlibofjbhhdjdaaGreat
namespace Go.Proofs.YtlibofjbhhdjdaaGreat
open Go.RowKit
theorem run_neg_flt (P:Program)(f:Nat)(w:World):(Op.unary .neg (.float .f64 f)).run P w= .ok (.float .f64 (f ^^^ 9223372036854775808)) w:=rfl
def fltOf:Value->Nat
 | .float _ f=>f
 |_=>0
attribute [local go_sem] run_neg_flt rsf run_fl_add run_fl_sub run_fl_mul run_fl_quo run_cv
theorem floattext_any (f:Nat)(w:World):Calls Tryz.prog 130 #[.float .f64 f] w fun e w'=>RetS e 60/\Onw w w':=by
 go_enter Tryz.func130,Tryz.ntmps130
 go_wp2_with fail
 refine (l1nan_any f _).mono ?_
 rintro e w1 ⟨rfl,o1⟩
 have O1:Hid _:=o1
 clear o1
 cases hn:(FloatKind.f64.format.order f f !=some .eq)
 rotate_left
 ·go_wp2_with fail
  go_ret
  exact ⟨⟨_,rfl,by decide⟩,O1.out⟩
 have hr:=nan_rung hn
 clear hn
 have hsg:sgn f=0\/sgn f=1:=by unfold sgn;omega
 go_upto_region 4 with (fail)
 go_cut [17] (fun bv wd=>∃b:Bool,bv= .bool b/\(b=true->rung f=0\/sgn f=1)/\(b=false->rung f=0\/sgn f=0)/\Onw w wd)
 case first=>
  by_cases hz:rung f=0
  ·have e:=order0_zero hz
   have HZ:Hid _:=hz
   clear hz hr hsg
   go_wp2_with fail
   go_meet
   case rel=>exact ⟨_,rfl,fun _=>Or.inl HZ.out,fun _=>Or.inl HZ.out,Onw.trans O1.out (flD_onw _ _ _ _)⟩
  ·rcases hsg with hs|hs
   ·have e:=order0_pos hs Zo hr
    have HS:Hid _:=hs
    clear hz hr hs
    go_wp2_with fail
    go_meet
    case rel=>exact ⟨_,rfl,fun h=>by simp at h,fun _=>Or.inr HS.out,O1.out⟩
   ·have e:=order0_neg hs Zo hr
    have HS:Hid _:=hs
    clear hz hr hs
    go_wp2_with fail
    go_meet
    case rel=>exact ⟨_,rfl,fun _=>Or.inr HS.out,fun h=>by simp at h,O1.out⟩
 case rest=>
  obtain ⟨b,rfl,hb1,hb2,o2⟩:=hcut
  have HB1:Hid _:=hb1
  have HB2:Hid _:=hb2
  have O2:Hid _:=o2
  have HR:Hid _:=hr
  clear hb1 hb2 o2 hr hsg O1
  obtain ⟨w2,hw2⟩:∃y,y=wc:=⟨_,rfl⟩
  subst hw2
  go_upto_if 17 with (fail)
  go_cut [0,3] (fun fv sv wd=>∃(f':Nat) (s':ByteArray),fv= .float .f64 f'/\sv= .string s'/\s'.size<=1/\rung f'=rung f/\(rung f'=0\/sgn f'=0)/\wd=w2)
  case first=>
   cases b
   ·go_wp2_with fail
    go_meet
    case rel=>exact ⟨f,_,rfl,rfl,by decide,rfl,HB2.out trivial,rfl⟩
   ·go_wp2_with fail
    go_meet
    case rel=>
     refine ⟨f ^^^ 9223372036854775808,_,rfl,rfl,by decide,(rung_neg f).1,?_,rfl⟩
     rw[(rung_neg f).1,(rung_neg f).2]
     rcases HB1.out trivial with h|h
     ·exact Or.inl h
     ·exact Or.inr Zo
  case rest=>
   obtain ⟨f',s',rfl,rfl,hs',hf',hq,rfl⟩:=hcut
   have hr':rung f'<=9218868437227405312:=J274
   clear hf'
   obtain ⟨w2,hw2⟩:∃y,y=wc:=⟨_,rfl⟩
   subst hw2
   by_cases hz:rung f'=0
   ·have e:=order0_zero hz
    clear hz hr' hq
    exact J159
   have hs0:sgn f'=0:=hq.resolve_left hz
   have e0:=order0_pos hs0 Zo hr'
   by_cases hi:rung f'=9218868437227405312
   ·obtain ⟨m1,m2⟩:=inf_half hs0 hi
    have m1':floatBits .mul .f64 f' 4602678819172646912=some 9218868437227405312:=m1
    have e1:=fun w=>flR_some (w:=w) m1'
    have e2:=fun w=>flD_some (w:=w) m1'
    clear m1 m1' hi hs0 hz hq hr'
    exact J159
   have ps:Hid (Pos f'):=⟨hs0,by omega,by omega⟩
   clear hs0 hi hz hq hr'
   -- LOOPS
   cases hb:(FloatKind.f64.format.order (flR .mul f' 4602678819172646912 w2) f'==some .eq)
   rotate_left
   ·go_wp2_with fail
    go_ret
    exact ⟨⟨_,rfl,by rw[ByteArray.size_append];show s'.size+3<=60;omega⟩,Onw.trans O2.out (flD_onw _ _ _ _)⟩
   go_wp2_with fail
   have O3:Hid (Onw w (flD .mul f' 4602678819172646912 w2)):=Onw.trans O2.out (flD_onw _ _ _ _)
   clear hb e0
   generalize flD .mul f' 4602678819172646912 w2=w3 at*
   go_loopw [0,4] (fun fv ev wr=>∃(g:Nat) (e:Int),fv= .float .f64 g/\ev= .int .i64 e/\Pos g/\0<=e/\e<=(rung g:Int)/\Onw w wr) (fun fv _ _=>9218868437227405312-rung (fltOf fv))
   case atStart=>exact ⟨f',0,rfl,rfl,ps.out,by omega,by have:=ps.out.2.1;omega,O3.out⟩
   case round=>
    obtain ⟨g,e,rfl,rfl,pg,he0,he1,og⟩:=hrel
    have OG:Hid _:=og
    have rg:rung g < 9218868437227405312:=pg.2.2
    clear og
    by_cases ht:rung g=1
    ·have T0:Hid (dbl.read g= .number false 1 (-1074)):=pos_tiny pg ht
     have e0:=order0_pos pg.1 pg.2.1 Zo
     go_wp2_with fail
     refine (l1floor_tiny g _ T0.out).mono ?_
     rintro e' w4 ⟨rfl,o4⟩
     have O4':Hid (Onw w w4):=Onw.trans OG.out o4
     clear o4
     exact J59
    ·go_wp2_with fail
     refine (l1floor_any g _).mono ?_
     rintro e' w4 ⟨⟨q,rfl,hq⟩,o4⟩
     have O4':Hid (Onw w w4):=Onw.trans OG.out o4
     clear o4
     cases hne:(FloatKind.f64.format.order g q !=some .eq)
     ·clear hq
      go_wp2_with fail
      obtain ⟨wl,hwl⟩:∃y,y=wr:=⟨_,rfl⟩
      subst hwl
      have PG:Hid (Pos g/\2<=rung g/\rung g < 9218868437227405312):=⟨pg,by have:=pg.2.1;omega,pg.2.2⟩
      have O4:Hid _:=O4'.out
      clear pg
      go_loopw [0,4] (fun fv ev wq=>∃(h:Nat) (e2:Int),fv= .float .f64 h/\ev= .int .i64 e2/\Pos h/\2<=rung h/\-9218868437227405312<=e2/\e2+(rung h:Int)<=9218868437227405312/\Onw w wq) (fun fv _ _=>rung (fltOf fv))
      case atStart=>exact ⟨g,-e,rfl,by first|rfl|go_num,PG.out.1,PG.out.2.1,by have:=PG.out.2.2;omega,by have:=PG.out.2.2;omega,O4.out⟩
      case round=>
       obtain ⟨h,e2,rfl,rfl,ph,hh2,he2,he3,oh⟩:=hrel
       have OH:Hid _:=oh
       obtain ⟨r',hm,hr1,hr2⟩:=pos_half ph hh2
       have hm':floatBits .mul .f64 h 4602678819172646912=some r':=hm
       have e1:=fun w=>flR_some (w:=w) hm'
       have e3:=fun w=>flD_some (w:=w) hm'
       have rh:rung h < 9218868437227405312:=ph.2.2
       have PR:Hid (Pos r'/\rung r'=r'):=Pos.of hr1 Zo
       have RLH:Hid (r' < rung h):=hr2
       generalize hrg:rung h=rg at*
       have HRG:Hid _:=hrg
       clear hrg
       clear hm hm' ph oh
       by_cases ht:r'=1
       ·have T0:Hid (dbl.read r'= .number false 1 (-1074)):=pos_tiny PR.out.1 (by rw[PR.out.2];exact ht)
        have e0:=order0_pos PR.out.1.1 (by rw[PR.out.2];omega) (by rw[PR.out.2];omega)
        clear ht
        go_wp2_with fail
        refine (l1floor_tiny r' _ T0.out).mono ?_
        rintro e' w6 ⟨rfl,o6⟩
        have O6:Hid (Onw w w6):=Onw.trans OH.out o6
        clear o6
        exact J50
       ·go_wp2_with fail
        refine (l1floor_any r' _).mono ?_
        rintro e' w6 ⟨⟨q,rfl,hq⟩,o6⟩
        have O6:Hid (Onw w w6):=Onw.trans OH.out o6
        clear o6 hq
        cases hne:(FloatKind.f64.format.order r' q==some .eq)
        ·exact J50
        ·go_wp2_with fail
         go_roundw
         case rel=>exact ⟨r',e2+1,rfl,by first|rfl|go_num,PR.out.1,by rw[PR.out.2];omega,by omega,by rw[PR.out.2];omega,O6.out⟩
         case measure=>
          show rung r' < rung h
          rw[PR.out.2,HRG.out];exact RLH.out
     ·have hbig:rung g < 4890909195324358656:=by
       apply pos_big pg
       cases hb:bigB g
       ·rfl
       ·rw[hq hb,pos_self pg] at hne
        simp at hne
      clear hq
      exact J59
end Go.Proofs.YtlibofjbhhdjdaaGreat
namespace Go.Proofs.YtlibofjbhhdjdaaGreat
open Go.RowKit
attribute [local go_sem] rsf
structure TwoV (w wx:World) (A B:Array Value):Prop where
 o:Onw w wx
 a:Blk wx w.heap.size 153 A
 b:Blk wx (w.heap.size+1) 153 B
theorem TwoV.start (w:World)(A B:Array Value):TwoV w ((w.alloc (.cells A 153)).alloc (.cells B 153)) A B:=
 ⟨(Onw.alloc _ _).trans (Onw.alloc _ _),(Blk.new w _ A).onw (Onw.alloc _ _),by have:=Blk.new (w.alloc (.cells A 153)) 153 B;rw[World.size_alloc] at this;exact this⟩
theorem TwoV.onw {w wx wy:World}{A B:Array Value}(h:TwoV w wx A B)(o:Onw wx wy):TwoV w wy A B:=⟨h.o.trans o,h.a.onw o,h.b.onw o⟩
theorem compare_is (ka na:Int)(fa:Nat)(sa:ByteArray)(ra:Int)(kb nb:Int)(fb:Nat)(sb:ByteArray)(rb:Int)(w:World)(_ha4:(ka==4)=false)(_ha2:(ka==2)=true)(_ha3:(ka==3)=false)(_hb4:(kb==4)=true)(_hb2:(kb==2)=false)(_hb3:(kb==3)=false):Calls Tryz.prog 123 #[.agg #[.int .i64 ka,.int .i64 na,.float .f64 fa,.string sa,.int .i64 ra],.agg #[.int .i64 kb,.int .i64 nb,.float .f64 fb,.string sb,.int .i64 rb]] w fun e w'=>RetI e/\Onw w w':=by
 exact J9
theorem compare_io (ka na:Int)(fa:Nat)(sa:ByteArray)(ra:Int)(kb nb:Int)(fb:Nat)(sb:ByteArray)(rb:Int)(w:World)(_ha4:(ka==4)=false)(_ha2:(ka==2)=true)(_ha3:(ka==3)=false)(_hb4:(kb==4)=false)(_hb2:(kb==2)=false)(_hb3:(kb==3)=false):Calls Tryz.prog 123 #[.agg #[.int .i64 ka,.int .i64 na,.float .f64 fa,.string sa,.int .i64 ra],.agg #[.int .i64 kb,.int .i64 nb,.float .f64 fb,.string sb,.int .i64 rb]] w fun e w'=>RetI e/\Onw w w':=by
 exact J9
theorem compare_fs (ka na:Int)(fa:Nat)(sa:ByteArray)(ra:Int)(kb nb:Int)(fb:Nat)(sb:ByteArray)(rb:Int)(w:World)(_ha4:(ka==4)=false)(_ha2:(ka==2)=false)(_ha3:(ka==3)=true)(_hb4:(kb==4)=true)(_hb2:(kb==2)=false)(_hb3:(kb==3)=false):Calls Tryz.prog 123 #[.agg #[.int .i64 ka,.int .i64 na,.float .f64 fa,.string sa,.int .i64 ra],.agg #[.int .i64 kb,.int .i64 nb,.float .f64 fb,.string sb,.int .i64 rb]] w fun e w'=>RetI e/\Onw w w':=by
 exact J9
theorem compare_fo (ka na:Int)(fa:Nat)(sa:ByteArray)(ra:Int)(kb nb:Int)(fb:Nat)(sb:ByteArray)(rb:Int)(w:World)(_ha4:(ka==4)=false)(_ha2:(ka==2)=false)(_ha3:(ka==3)=true)(_hb4:(kb==4)=false)(_hb2:(kb==2)=false)(_hb3:(kb==3)=false):Calls Tryz.prog 123 #[.agg #[.int .i64 ka,.int .i64 na,.float .f64 fa,.string sa,.int .i64 ra],.agg #[.int .i64 kb,.int .i64 nb,.float .f64 fb,.string sb,.int .i64 rb]] w fun e w'=>RetI e/\Onw w w':=by
 exact J9
end Go.Proofs.YtlibofjbhhdjdaaGreat
