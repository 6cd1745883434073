import Derived.Test.YtlibofjbhhdjdaaGreatQ
import Derived.Test.YtlibofjbhhdjdaaGreatP29
import Derived.Test.YtlibofjbhhdjdaaGreatP21
import Derived.Test.YtlibofjbhhdjdaaGreatP34
set_option linter.unusedSimpArgs false
set_option maxRecDepth 100000
set_option maxHeartbeats 16000000
namespace Go.Proofs.YtlibofjbhhdjdaaGreat
open Go.RowKit
attribute [local go_sem] rsf
variable {f:Nat->Value} {w:World}
def signB (s:ByteArray) (i:Nat):Bool:=letterB (byteI s i)||digitB (byteI s i)
def nameI (s:ByteArray):Bool:=decide (1<=s.size)&&(decide (s.size<=40)&&(!digitB (byteI s 0)&&(!wordB s&&allB (signB s) 0 s.size)))
theorem allB_congr {f g:Nat->Bool}:∀(n i:Nat),(∀k,i<=k->k < i+n->f k=g k)->allB f i n=allB g i n
 |0,_,_=>rfl
 |n+1,i,h=>by
  simp only[allB]
  rw[h i (Nat.le_refl _) Zo,allB_congr n (i+1) fun k h1 h2=>h k Zo Zo]
theorem letter_digit (x:Int):(letterB x&&digitB x)=false:=by
 cases hd:digitB x
 ·rw[Bool.and_false]
 ·have:48<=x/\x<=57:=by simpa[digitB] using hd
  have e:letterB x=false:=by
   unfold letterB
   rw[decide_eq_false (show¬(97:Int)<=x by omega),decide_eq_false (show¬(65:Int)<=x by omega),beq_false_of_ne (show x≠95 by omega)];rfl
  rw[e];rfl
theorem nameI_eq (s:ByteArray):nameI s=nameB s:=by
 unfold nameI nameB
 by_cases h0:1<=s.size
 ·obtain ⟨n,hn⟩:∃n,s.size=n+1:=⟨s.size-1,by omega⟩
  have e1:allB (signB s) 0 s.size=(signB s 0&&allB (signB s) 1 n):=by rw[hn];rfl
  have e2:allB (fun i=>letterB (byteI s i)||(!((i:Int)==0)&&digitB (byteI s i))) 0 s.size=(letterB (byteI s 0)&&allB (signB s) 1 n):=by
   rw[hn]
   simp only[allB]
   rw[allB_congr (g:=signB s) n 1 fun k h1 _=>by
    have:((k:Int)==0)=false:=beq_false_of_ne Zo
    simp only[this];rfl]
   simp
  rw[e1,e2]
  have ld:=letter_digit (byteI s 0)
  generalize allB (signB s) 1 n=q
  unfold signB
  revert ld
  generalize letterB (byteI s 0)=a
  generalize digitB (byteI s 0)=b
  generalize wordB s=c
  generalize decide (1<=s.size)=d
  generalize decide (s.size<=40)=e
  cases a <;> cases b <;> cases c <;> cases d <;> cases e <;> cases q <;> decide
 ·rw[decide_eq_false h0];rfl
theorem isName_any (s:ByteArray)(w:World)(hs:s.size<=1048576):Calls Tryz.prog 98 #[.string s] w fun e w'=>e= .returned (.bool (nameB s))/\w'=w:=by
 rw[<-nameI_eq]
 by_cases h0:1<=s.size
 ·by_cases h40:s.size<=40
  ·have e0:decide ((s.size:Int) < 1)=false:=decide_eq_false Zo
   have e1:decide ((40:Int) < (s.size:Int))=false:=decide_eq_false Zo
   have fin:Hid (nameI s=(!digitB (byteI s 0)&&(!wordB s&&allB (signB s) 0 s.size))):=by
    show _=_;unfold nameI;rw[decide_eq_true h0,decide_eq_true h40];rfl
   have eb:∀h:0 < s.size,((s[0]'h).toNat:Int)=byteI s 0:=fun h=>by unfold byteI;rw[dif_pos h]
   go_enter Tryz.func98,Tryz.ntmps98
   go_wp2_with fail
   refine (isDigit_any _ _).mono ?_
   rintro e w1 ⟨rfl,rfl⟩
   cases hd:digitB (byteI s 0)
   ·go_wp2_with fail
    refine (isWord_any _ _).mono ?_
    rintro e w1 ⟨rfl,rfl⟩
    cases hw:wordB s
    ·go_wp2_with fail
     go_loop [23] (fun i=>∃k:Nat,k<=s.size/\i= .int .i64 k/\allB (signB s) 0 s.size=allB (signB s) k (s.size-k)) (fun i=>s.size-(intOf i).toNat)
     case atStart=>exact ⟨0,Nat.zero_le _,rfl,rfl⟩
     case round=>
      obtain ⟨k,hk,rfl,hq⟩:=hrel
      have HQ:Hid _:=hq
      clear hq
      by_cases hlt:k < s.size
      ·have st:Hid (allB (signB s) k (s.size-k)=(signB s k&&allB (signB s) (k+1) (s.size-(k+1)))):=by
        exact J173
       have sb:Hid (signB s k=(letterB (byteI s k)||digitB (byteI s k))):=rfl
       have ek:∀h:k < s.size,((s[k]'h).toNat:Int)=byteI s k:=fun h=>by unfold byteI;rw[dif_pos h]
       go_wp2_with fail
       refine (isLetter_any _ _).mono ?_
       rintro e w1 ⟨rfl,rfl⟩
       cases hl:letterB (byteI s k)
       ·go_wp2_with fail
        refine (isDigit_any _ _).mono ?_
        rintro e w1 ⟨rfl,rfl⟩
        cases hg:digitB (byteI s k)
        ·go_wp2_with fail
         go_ret
         exact ⟨rtb (by rw[fin.out,hd,hw,HQ.out,st.out,sb.out,hl,hg];rfl),rfl⟩
        ·go_wp2_with fail
         go_round
         case rel=>exact ⟨k+1,by omega,by go_num,by rw[HQ.out,st.out,sb.out,hg,Bool.or_true];rfl⟩
         case measure=>simp[intOf];omega
       ·go_wp2_with fail
        go_round
        case rel=>exact ⟨k+1,by omega,by go_num,by rw[HQ.out,st.out,sb.out,hl];rfl⟩
        case measure=>simp[intOf];omega
      ·have st:Hid (allB (signB s) k (s.size-k)=true):=by
        exact J184
       go_wp2_with fail
       go_ret
       exact ⟨rtb (by rw[fin.out,hd,hw,HQ.out,st.out];rfl),rfl⟩
    ·go_wp2_with fail
     go_ret
     exact ⟨rtb (by rw[fin.out,hd,hw];rfl),rfl⟩
   ·go_wp2_with fail
    go_ret
    exact ⟨rtb (by rw[fin.out,hd];rfl),rfl⟩
  ·have e0:decide ((s.size:Int) < 1)=false:=decide_eq_false Zo
   have e1:decide ((40:Int) < (s.size:Int))=true:=decide_eq_true Zo
   have fin:Hid (nameI s=false):=by
    show _=_;unfold nameI;rw[decide_eq_false h40,Bool.false_and,Bool.and_false]
   exact J171
 ·have e0:decide ((s.size:Int) < 1)=true:=decide_eq_true Zo
  have fin:Hid (nameI s=false):=by show _=_;unfold nameI;rw[decide_eq_false h0];rfl
  exact J171
theorem areNames_any (a:Option Addr)(n c:Nat)(nm:Nat->ByteArray)(w:World)(hn:n<=1048576)(hs:∀i,i < n->(nm i).size<=1048576)(ha:StrsAt w a n nm):
  Calls Tryz.prog 99 #[.slice a n c] w fun e w'=>e= .returned (.bool (allB (fun i=>nameB (nm i)) 0 n))/\w'=w:=by
 have HS:Hid _:=hs
 clear hs
 go_enter Tryz.func99,Tryz.ntmps99
 go_wp2_with fail
 go_loop [7] (fun i=>∃k:Nat,k<=n/\i= .int .i64 k/\allB (fun i=>nameB (nm i)) 0 n=allB (fun i=>nameB (nm i)) k (n-k)) (fun i=>n-(intOf i).toNat)
 case atStart=>exact ⟨0,Nat.zero_le _,rfl,rfl⟩
 case round=>
  obtain ⟨k,hk,rfl,hr⟩:=hrel
  have HR:Hid _:=hr
  clear hr
  by_cases hlt:k < n
  ·obtain ⟨b,off,rfl,hc⟩:=ha Zo
   have hck:=hc k hlt
   clear hc
   have hst:Hid (allB (fun i=>nameB (nm i)) k (n-k)=(nameB (nm k)&&allB (fun i=>nameB (nm i)) (k+1) (n-(k+1)))):=by
    exact J195
   go_wp2_with fail
   refine (isName_any _ _ (HS.out k hlt)).mono ?_
   rintro e w1 ⟨rfl,rfl⟩
   cases hx:nameB (nm k)
   ·go_wp2_with fail
    go_ret
    exact ⟨rtb (by rw[HR.out,hst.out,hx];rfl),rfl⟩
   ·go_wp2_with fail
    go_round
    case rel=>exact ⟨k+1,by omega,by go_num,by rw[HR.out,hst.out,hx];rfl⟩
    case measure=>simp[intOf];omega
  ·have hst:Hid (allB (fun i=>nameB (nm i)) k (n-k)=true):=by
    exact J209
   go_wp2_with fail
   go_ret
   exact ⟨rtb (by rw[HR.out,hst.out]),rfl⟩
def hasR (a r:Int):Bool:=!(bits .and .i64 a r==0)
theorem standAs_any (a:Option Addr)(n c:Nat)(q:Nat->Option PX)(r:Int)(w:World)(hn:n<=1048576)(ha:ValsAt w a n (fun j=>pv (q j))):
  Calls Tryz.prog 93 #[.slice a n c,.int .i64 r] w fun e w'=>e= .returned (.bool (allB (fun i=>hasR (roleO (q i)) r) 0 n))/\Onw w w':=by
 go_enter Tryz.func93,Tryz.ntmps93
 go_wp2_with fail
 go_loopw [9] (fun i wr=>∃k:Nat,k<=n/\i= .int .i64 k/\Onw w wr/\allB (fun i=>hasR (roleO (q i)) r) 0 n=allB (fun i=>hasR (roleO (q i)) r) k (n-k)) (fun i _=>n-(intOf i).toNat)
 case atStart=>exact ⟨0,Nat.zero_le _,rfl,Onw.refl _,rfl⟩
 case round=>
  obtain ⟨k,hk,rfl,ob,hr⟩:=hrel
  have HR:Hid _:=hr
  clear hr
  by_cases hlt:k < n
  ·obtain ⟨b,off,rfl,hc⟩:=ha.onw ob Zo
   have hck:wr.cell? ⟨b,off+k,none⟩=some (pv (q k)):=hc k hlt
   have zb:=clt hck
   clear hc
   have hst:Hid (allB (fun i=>hasR (roleO (q i)) r) k (n-k)=(hasR (roleO (q k)) r&&allB (fun i=>hasR (roleO (q i)) r) (k+1) (n-(k+1)))):=by
    exact J195
   have R:=rolesOf_any (q k)
   have HH:Hid (hasR (roleO (q k)) r=!(bits .and .i64 (roleO (q k)) r==0)):=rfl
   generalize roleO (q k)=ro at R HH hst
   generalize pv (q k)=v at R hck
   go_wp2_with fail
   refine (R _).mono ?_
   rintro e w1 ⟨rfl,hb1⟩
   cases hx:(bits .and .i64 ro r==0)
   ·go_wp2_with fail
    go_roundw
    case rel=>exact ⟨k+1,by omega,by go_num,ob.trans hb1,by rw[HR.out,hst.out,HH.out,hx];rfl⟩
    case measure=>simp[intOf];omega
   ·go_wp2_with fail
    go_ret
    exact ⟨rtb (by rw[HR.out,hst.out,HH.out,hx];rfl),ob.trans hb1⟩
  ·have hst:Hid (allB (fun i=>hasR (roleO (q i)) r) k (n-k)=true):=by
    exact J209
   go_wp2_with fail
   go_ret
   exact ⟨rtb (by rw[HR.out,hst.out]),ob⟩
theorem kidsAre_any (m:PM)(p:Int)(kk:Option Addr)(kn kc:Nat)(q:Nat->Option PX)(ca:Option Addr)(cn cc:Nat)(cf:Nat->Int)(w:World)(hn:kn<=1048576)(hk:ValsAt w kk kn (fun j=>pv (q j)))(ha:IntsAt w ca cn cf):
  Calls Tryz.prog 95 #[.agg (XA m p kk kn kc),.slice ca cn cc] w fun e w'=>e= .returned (.bool ((kn:Int)==cn&&allB (fun i=>hasR (roleO (q i)) (cf i)) 0 cn))/\Onw w w':=by
 unfold XA
 by_cases e1:kn=cn
 ·subst e1
  have fin:Hid (((kn:Int)==kn&&allB (fun i=>hasR (roleO (q i)) (cf i)) 0 kn)=allB (fun i=>hasR (roleO (q i)) (cf i)) 0 kn):=by show _=_;simp
  have N0:=Blk.new w 104 (XA m p kk kn kc)
  have O0:=Onw.alloc w (Obj.cells (XA m p kk kn kc) 104)
  go_enter Tryz.func95,Tryz.ntmps95
  go_wp2_with fail
  go_loopw [15] (fun i wr=>∃k:Nat,k<=kn/\i= .int .i64 k/\Onw w wr/\Blk wr w.heap.size 104 #[.int .i64 p,.int .i64 m.kind,.int .i64 m.frm,.int .i64 m.tto,.int .i64 m.line,.int .i64 m.op,.int .i64 m.num,.float .f64 m.flt,.string m.text,.slice m.na m.nn m.nc,.slice m.ka m.nk m.kc,.slice kk kn kc]/\allB (fun i=>hasR (roleO (q i)) (cf i)) 0 kn=allB (fun i=>hasR (roleO (q i)) (cf i)) k (kn-k)) (fun i _=>kn-(intOf i).toNat)
  case atStart=>exact ⟨0,Nat.zero_le _,rfl,O0,N0,rfl⟩
  case round=>
   clear N0 O0
   obtain ⟨k,hkk,rfl,ob,B,hr⟩:=hrel
   have HR:Hid _:=hr
   clear hr
   by_cases hlt:k < kn
   ·obtain ⟨b,off,rfl,hcc⟩:=ha.onw ob Zo
    have hck:=hcc k hlt
    have z1:=clt hck
    obtain ⟨b2,off2,rfl,hcc2⟩:=hk.onw ob Zo
    have hkk2:wr.cell? ⟨b2,off2+k,none⟩=some (pv (q k)):=hcc2 k hlt
    have z2:=clt hkk2
    clear hcc hcc2
    have hst:Hid (allB (fun i=>hasR (roleO (q i)) (cf i)) k (kn-k)=(hasR (roleO (q k)) (cf k)&&allB (fun i=>hasR (roleO (q i)) (cf i)) (k+1) (kn-(k+1)))):=by
     show _=_
     rw[show kn-k=(kn-(k+1))+1 from by omega];rfl
    have R:=rolesOf_any (q k)
    have HH:Hid (hasR (roleO (q k)) (cf k)=!(bits .and .i64 (roleO (q k)) (cf k)==0)):=rfl
    generalize roleO (q k)=ro at R HH hst
    generalize pv (q k)=v at R hkk2
    have x11:=Blk.at_ B 11 rfl
    go_wp2_with fail
    refine (R _).mono ?_
    rintro e w1 ⟨rfl,hb1⟩
    replace B:=B.onw hb1
    cases hx:(bits .and .i64 ro (cf k)==0)
    ·go_wp2_with fail
     go_roundw
     case rel=>exact ⟨k+1,by omega,by go_num,ob.trans hb1,B,by rw[HR.out,hst.out,HH.out,hx];rfl⟩
     case measure=>simp[intOf];omega
    ·go_wp2_with fail
     go_ret
     exact ⟨rtb (by first|rw[HR.out,hst.out,HH.out,hx];rfl|rw[fin.out,HR.out,hst.out,HH.out,hx];rfl),ob.trans hb1⟩
   ·have hst:Hid (allB (fun i=>hasR (roleO (q i)) (cf i)) k (kn-k)=true):=by
     show _=_
     rw[show kn-k=0 from by omega];rfl
    go_wp2_with fail
    go_ret
    exact ⟨rtb (by first|rw[fin.out,HR.out,hst.out]|rw[HR.out,hst.out]),ob⟩
 ·have e2:((kn:Int) !=(cn:Int))=true:=Zj
  have fin:Hid (((kn:Int)==cn&&allB (fun i=>hasR (roleO (q i)) (cf i)) 0 cn)=false):=by
   show _=_
   have:((kn:Int)==(cn:Int))=false:=Zj
   rw[this];rfl
  go_enter Tryz.func95,Tryz.ntmps95
  exact J153
theorem declares_any (m:PM)(p:Int)(kk:Option Addr)(kn kc:Nat)(least most:Nat)(w:World)(hn:m.nn<=1048576)(hz:∀i,i < m.nn->(m.nm i).size<=1048576)(ha:StrsAt w m.na m.nn m.nm):
  Calls Tryz.prog 94 #[.agg (XA m p kk kn kc),.int .i64 least,.int .i64 most] w fun e w'=>e= .returned (.bool (usesP m.toPD false false false false true&&(decide ((least:Int)<=m.nn)&&(decide ((m.nn:Int)<=most)&&allB (fun i=>nameB (m.nm i)) 0 m.nn))))/\Onw w w':=by
 unfold XA
 have N0:=Blk.new w 104 (XA m p kk kn kc)
 have O0:=Onw.alloc w (Obj.cells (XA m p kk kn kc) 104)
 go_enter Tryz.func94,Tryz.ntmps94
 go_wp2_with fail
 refine (usesOnly_any m p kk kn kc 16 _ false false false false true J269).mono ?_
 rintro e w1 ⟨rfl,hb1⟩
 replace N0:=N0.onw hb1
 replace O0:=O0.trans hb1
 clear hb1
 have x9:=Blk.at_ N0 9 rfl
 cases hx:usesP m.toPD false false false false true
 ·go_wp2_with fail
  go_ret
  exact ⟨rtb (by rw[hx];rfl),O0⟩
 ·by_cases h1:(least:Int)<=m.nn
  ·have d1:=decide_eq_true h1
   by_cases h2:(m.nn:Int)<=most
   ·have d2:=decide_eq_true h2
    go_wp2_with fail
    refine (areNames_any _ _ _ m.nm _ hn hz (ha.onw O0)).mono ?_
    rintro e w2 ⟨rfl,rfl⟩
    exact J150
   ·have d2:=decide_eq_false h2
    exact J150
  ·have d1:=decide_eq_false h1
   exact J150
structure FitsAt (m:PM) (kk:Option Addr) (kn kc:Nat) (q:Nat->Option PX) (w:World):Prop where
 hn:kn<=1048576
 hk:ValsAt w kk kn (fun j=>pv (q j))
 hkc:kn<=kc
 hnn:m.nn<=1048576
 hz:∀i,i < m.nn->(m.nm i).size<=1048576
 htx:m.text.size<=1048576
 hm:StrsAt w m.na m.nn m.nm
def classF (l:List Int):Nat->Int:=fun i=>l.getD i 0
def kidsR (l:List Int) (kn:Nat) (q:Nat->Option PX):Bool:=(kn:Int)==(l.length:Nat)&&allB (fun i=>hasR (roleO (q i)) (classF l i)) 0 l.length
def standR (r:Int) (kn:Nat) (q:Nat->Option PX):Bool:=allB (fun i=>hasR (roleO (q i)) r) 0 kn
def declP (d:PD) (least most:Nat):Bool:=usesP d false false false false true&&(decide ((least:Int)<=d.nn)&&(decide ((d.nn:Int)<=most)&&allB (fun i=>nameB (d.nm i)) 0 d.nn))
theorem declP_eq {d:PD}{least most:Nat}:(usesP d false false false false true&&(decide ((least:Int)<=d.nn)&&(decide ((d.nn:Int)<=most)&&allB (fun i=>nameB (d.nm i)) 0 d.nn)))=declP d least most:=rfl
def targetsR (d:PD) (kn:Nat) (q:Nat->Option PX):Bool:=decide (1<=d.num)&&(decide (d.num < kn)&&(standR 128 d.num.toNat q&&standR 8 (kn-d.num.toNat) (fun i=>q (d.num.toNat+i))))
theorem isNaN_any (x:Nat)(w:World):Calls Tryz.prog 97 #[.float .f64 x] w fun e w'=>e= .returned (.bool (!fnum x))/\w'=w:=by
 go_enter Tryz.func97,Tryz.ntmps97
 go_wp2
 go_ret
 exact ⟨rfl,rfl⟩
theorem vals_to {a:Option Addr}{n n':Nat}(h:ValsAt w a n f)(hn:n'<=n):ValsAt w a n' f:=fun h0=>by
 obtain ⟨b',off',he,hc⟩:=h Zo
 exact ⟨b',off',he,fun i hi=>hc i Zo⟩
theorem vals_from {b off n t:Nat}(h:ValsAt w (some ⟨b,off,none⟩) n f)(ht:t<=n):ValsAt w (some ⟨b,off+t,none⟩) (n-t) (fun i=>f (t+i)):=fun h0=>by
 obtain ⟨b',off',he,hc⟩:=h Zo
 simp only[Option.some.injEq,Addr.mk.injEq,and_true] at he
 obtain ⟨rfl,rfl⟩:=he
 exact ⟨b,off+t,rfl,fun i hi=>by rw[Nat.add_assoc];exact hc (t+i) Zo⟩
theorem lay1 (w:World)(t:TypeId)(v0:Int):IntsAt (w.alloc (Obj.cells #[.int .i64 v0] t)) (some ⟨w.heap.size,0,none⟩) 1 (classF [v0]):=fun _=>⟨_,0,rfl,fun i hi=>by
 rw[(Blk.new w t _).cell]
 match i,hi with
 |0,_=>rfl⟩
theorem lay2 (w:World)(t:TypeId)(v0 v1:Int):IntsAt (w.alloc (Obj.cells #[.int .i64 v0,.int .i64 v1] t)) (some ⟨w.heap.size,0,none⟩) 2 (classF [v0,v1]):=fun _=>⟨_,0,rfl,fun i hi=>by
 rw[(Blk.new w t _).cell]
 match i,hi with
 |0,_=>rfl
 |1,_=>rfl⟩
theorem lay3 (w:World)(t:TypeId)(v0 v1 v2:Int):IntsAt (w.alloc (Obj.cells #[.int .i64 v0,.int .i64 v1,.int .i64 v2] t)) (some ⟨w.heap.size,0,none⟩) 3 (classF [v0,v1,v2]):=fun _=>⟨_,0,rfl,fun i hi=>by
 rw[(Blk.new w t _).cell]
 match i,hi with
 |0,_=>rfl
 |1,_=>rfl
 |2,_=>rfl⟩
theorem lay4 (w:World)(t:TypeId)(v0 v1 v2 v3:Int):IntsAt (w.alloc (Obj.cells #[.int .i64 v0,.int .i64 v1,.int .i64 v2,.int .i64 v3] t)) (some ⟨w.heap.size,0,none⟩) 4 (classF [v0,v1,v2,v3]):=fun _=>⟨_,0,rfl,fun i hi=>by
 rw[(Blk.new w t _).cell]
 match i,hi with
 |0,_=>rfl
 |1,_=>rfl
 |2,_=>rfl
 |3,_=>rfl⟩
end Go.Proofs.YtlibofjbhhdjdaaGreat
namespace Go.Proofs.YtlibofjbhhdjdaaGreat
open Go.RowKit
attribute [local go_sem] rsf
variable (m : PM) (p : Int) (kk : Option Addr) (kn kc : Nat) (q : Nat -> Option PX) (w : World)
theorem sf_each (H:FitsAt m kk kn kc q w):
  Calls Tryz.prog 74 #[.iface 136 (.agg (XA m p kk kn kc))] w fun e w'=>e= .returned (.bool (declP m.toPD 1 200&&(kidsR [8,2] kn q)))/\Onw w w':=by
 unfold XA
 obtain ⟨hn,hk,hkc,hnn,hz,htx,hm⟩:=H
 have ⟨O,B⟩:=st1 w 136 (XA m p kk kn kc)
 unfold XA at O B
 have bc:=B.cell
 have a_block:=as_block_no (t:=136) Zb
 have a_let:=as_let_no (t:=136) Zb
 have a_const:=as_const_no (t:=136) Zb
 have a_ownFn:=as_ownFn_no (t:=136) Zb
 have a_set:=as_set_no (t:=136) Zb
 have a_do:=as_do_no (t:=136) Zb
 have a_if:=as_if_no (t:=136) Zb
 have a_while:=as_while_no (t:=136) Zb
 have a_for:=as_for_no (t:=136) Zb
 have a_each:=as_each_yes
 go_enter Tryz.func74,Tryz.ntmps74
 go_wp2_with fail
 refine (declares_any m p kk kn kc 1 200 _ hnn hz (hm.onw O)).mono ?_
 rintro e w1 ⟨rfl,hb⟩
 replace B:=B.onw hb
 replace O:=O.trans hb
 clear hb bc
 have bc:=B.cell
 rw[declP_eq]
 cases h0:declP m.toPD 1 200
 ·exact J4
 ·exact J149
theorem sf_jump (H:FitsAt m kk kn kc q w):
  Calls Tryz.prog 74 #[.iface 178 (.agg (XA m p kk kn kc))] w fun e w'=>e= .returned (.bool (usesP m.toPD false false false false false&&(kidsR [] kn q)))/\Onw w w':=by
 unfold XA
 obtain ⟨hn,hk,hkc,hnn,hz,htx,hm⟩:=H
 have ⟨O,B⟩:=st1 w 178 (XA m p kk kn kc)
 unfold XA at O B
 have bc:=B.cell
 have a_block:=as_block_no (t:=178) Zb
 have a_let:=as_let_no (t:=178) Zb
 have a_const:=as_const_no (t:=178) Zb
 have a_ownFn:=as_ownFn_no (t:=178) Zb
 have a_set:=as_set_no (t:=178) Zb
 have a_do:=as_do_no (t:=178) Zb
 have a_if:=as_if_no (t:=178) Zb
 have a_while:=as_while_no (t:=178) Zb
 have a_for:=as_for_no (t:=178) Zb
 have a_each:=as_each_no (t:=178) Zb
 have a_jump:=as_jump_yes
 go_enter Tryz.func74,Tryz.ntmps74
 exact J56
theorem sf_return (H:FitsAt m kk kn kc q w):
  Calls Tryz.prog 74 #[.iface 179 (.agg (XA m p kk kn kc))] w fun e w'=>e= .returned (.bool (usesP m.toPD false false false false false&&(standR 8 kn q)))/\Onw w w':=by
 unfold XA
 obtain ⟨hn,hk,hkc,hnn,hz,htx,hm⟩:=H
 have ⟨O,B⟩:=st1 w 179 (XA m p kk kn kc)
 unfold XA at O B
 have bc:=B.cell
 have a_block:=as_block_no (t:=179) Zb
 have a_let:=as_let_no (t:=179) Zb
 have a_const:=as_const_no (t:=179) Zb
 have a_ownFn:=as_ownFn_no (t:=179) Zb
 have a_set:=as_set_no (t:=179) Zb
 have a_do:=as_do_no (t:=179) Zb
 have a_if:=as_if_no (t:=179) Zb
 have a_while:=as_while_no (t:=179) Zb
 have a_for:=as_for_no (t:=179) Zb
 have a_each:=as_each_no (t:=179) Zb
 have a_jump:=as_jump_no (t:=179) Zb
 have a_return:=as_return_yes
 go_enter Tryz.func74,Tryz.ntmps74
 go_wp2_with fail
 refine (usesOnly_any m p kk kn kc 0 _ false false false false false J269).mono ?_
 rintro e w1 ⟨rfl,hb⟩
 replace B:=B.onw hb
 replace O:=O.trans hb
 clear hb bc
 have bc:=B.cell
 cases h0:usesP m.toPD false false false false false
 ·exact J4
 ·exact J169
theorem sf_try (H:FitsAt m kk kn kc q w):
  Calls Tryz.prog 74 #[.iface 137 (.agg (XA m p kk kn kc))] w fun e w'=>e= .returned (.bool (declP m.toPD 1 2&&(kidsR [2,2] kn q)))/\Onw w w':=by
 unfold XA
 obtain ⟨hn,hk,hkc,hnn,hz,htx,hm⟩:=H
 have ⟨O,B⟩:=st1 w 137 (XA m p kk kn kc)
 unfold XA at O B
 have bc:=B.cell
 have a_block:=as_block_no (t:=137) Zb
 have a_let:=as_let_no (t:=137) Zb
 have a_const:=as_const_no (t:=137) Zb
 have a_ownFn:=as_ownFn_no (t:=137) Zb
 have a_set:=as_set_no (t:=137) Zb
 have a_do:=as_do_no (t:=137) Zb
 have a_if:=as_if_no (t:=137) Zb
 have a_while:=as_while_no (t:=137) Zb
 have a_for:=as_for_no (t:=137) Zb
 have a_each:=as_each_no (t:=137) Zb
 have a_jump:=as_jump_no (t:=137) Zb
 have a_return:=as_return_no (t:=137) Zb
 have a_try:=as_try_yes
 go_enter Tryz.func74,Tryz.ntmps74
 go_wp2_with fail
 refine (declares_any m p kk kn kc 1 2 _ hnn hz (hm.onw O)).mono ?_
 rintro e w1 ⟨rfl,hb⟩
 replace B:=B.onw hb
 replace O:=O.trans hb
 clear hb bc
 have bc:=B.cell
 rw[declP_eq]
 cases h0:declP m.toPD 1 2
 ·exact J4
 ·go_wp2_with fail
  refine (kidsAre_any m p kk kn kc q _ 2 _ (classF [2,2]) _ hn (hk.onw (O.trans (Onw.alloc _ _))) (by exact lay2 _ _ 2 2)).mono ?_
  exact J53
theorem sf_throw (H:FitsAt m kk kn kc q w):
  Calls Tryz.prog 74 #[.iface 180 (.agg (XA m p kk kn kc))] w fun e w'=>e= .returned (.bool (usesP m.toPD false false false false false&&(kidsR [8] kn q)))/\Onw w w':=by
 unfold XA
 obtain ⟨hn,hk,hkc,hnn,hz,htx,hm⟩:=H
 have ⟨O,B⟩:=st1 w 180 (XA m p kk kn kc)
 unfold XA at O B
 have bc:=B.cell
 have a_block:=as_block_no (t:=180) Zb
 have a_let:=as_let_no (t:=180) Zb
 have a_const:=as_const_no (t:=180) Zb
 have a_ownFn:=as_ownFn_no (t:=180) Zb
 have a_set:=as_set_no (t:=180) Zb
 have a_do:=as_do_no (t:=180) Zb
 have a_if:=as_if_no (t:=180) Zb
 have a_while:=as_while_no (t:=180) Zb
 have a_for:=as_for_no (t:=180) Zb
 have a_each:=as_each_no (t:=180) Zb
 have a_jump:=as_jump_no (t:=180) Zb
 have a_return:=as_return_no (t:=180) Zb
 have a_try:=as_try_no (t:=180) Zb
 have a_throw:=as_throw_yes
 go_enter Tryz.func74,Tryz.ntmps74
 exact J103
theorem ef_unary (H:FitsAt m kk kn kc q w):
  Calls Tryz.prog 75 #[.iface 188 (.agg (XA m p kk kn kc))] w fun e w'=>e= .returned (.bool (usesP m.toPD true false false false false&&(decide ((19:Int)<=m.op)&&(decide (m.op<=22)&&(kidsR [8] kn q)))))/\Onw w w':=by
 unfold XA
 obtain ⟨hn,hk,hkc,hnn,hz,htx,hm⟩:=H
 have ⟨O,B⟩:=st1 w 188 (XA m p kk kn kc)
 unfold XA at O B
 have bc:=B.cell
 have a_bare:=as_bare_no (t:=188) Zb
 have a_rest:=as_rest_no (t:=188) Zb
 have a_int:=as_int_no (t:=188) Zb
 have a_flt:=as_flt_no (t:=188) Zb
 have a_str:=as_str_no (t:=188) Zb
 have a_name:=as_name_no (t:=188) Zb
 have a_either:=as_either_no (t:=188) Zb
 have a_unary:=as_unary_yes
 go_enter Tryz.func75,Tryz.ntmps75
 go_wp2_with fail
 refine (usesOnly_any m p kk kn kc 1 _ true false false false false J269).mono ?_
 rintro e w1 ⟨rfl,hb⟩
 replace B:=B.onw hb
 replace O:=O.trans hb
 clear hb bc
 have bc:=B.cell
 cases h0:usesP m.toPD true false false false false
 ·exact J4
 ·by_cases c1:(19:Int)<=m.op
  ·have h1:decide ((19:Int)<=m.op)=true:=decide_eq_true c1
   by_cases c2:m.op<=22
   ·have h2:decide (m.op<=22)=true:=decide_eq_true c2
    exact J77
   ·have h2:decide (m.op<=22)=false:=decide_eq_false c2
    exact J4
  ·have h1:decide ((19:Int)<=m.op)=false:=decide_eq_false c1
   exact J4
theorem ef_binary (H:FitsAt m kk kn kc q w):
  Calls Tryz.prog 75 #[.iface 189 (.agg (XA m p kk kn kc))] w fun e w'=>e= .returned (.bool (usesP m.toPD true false false false false&&(decide ((1:Int)<=m.op)&&(decide (m.op<=18)&&(kidsR [8,8] kn q)))))/\Onw w w':=by
 unfold XA
 obtain ⟨hn,hk,hkc,hnn,hz,htx,hm⟩:=H
 have ⟨O,B⟩:=st1 w 189 (XA m p kk kn kc)
 unfold XA at O B
 have bc:=B.cell
 have a_bare:=as_bare_no (t:=189) Zb
 have a_rest:=as_rest_no (t:=189) Zb
 have a_int:=as_int_no (t:=189) Zb
 have a_flt:=as_flt_no (t:=189) Zb
 have a_str:=as_str_no (t:=189) Zb
 have a_name:=as_name_no (t:=189) Zb
 have a_either:=as_either_no (t:=189) Zb
 have a_unary:=as_unary_no (t:=189) Zb
 have a_binary:=as_binary_yes
 go_enter Tryz.func75,Tryz.ntmps75
 go_wp2_with fail
 refine (usesOnly_any m p kk kn kc 1 _ true false false false false J269).mono ?_
 rintro e w1 ⟨rfl,hb⟩
 replace B:=B.onw hb
 replace O:=O.trans hb
 clear hb bc
 have bc:=B.cell
 cases h0:usesP m.toPD true false false false false
 ·exact J4
 ·by_cases c1:(1:Int)<=m.op
  ·have h1:decide ((1:Int)<=m.op)=true:=decide_eq_true c1
   by_cases c2:m.op<=18
   ·have h2:decide (m.op<=18)=true:=decide_eq_true c2
    exact J231
   ·have h2:decide (m.op<=18)=false:=decide_eq_false c2
    exact J4
  ·have h1:decide ((1:Int)<=m.op)=false:=decide_eq_false c1
   exact J4
end Go.Proofs.YtlibofjbhhdjdaaGreat
