import Derived.Test.YtlibofjbhhdjdaaGreatQ
import Derived.Test.YtlibofjbhhdjdaaGreatP25
import Derived.Test.YtlibofjbhhdjdaaGreatP21
import Derived.Test.YtlibofjbhhdjdaaGreatP22
import Derived.Test.YtlibofjbhhdjdaaGreatP24
set_option linter.unusedSimpArgs false
set_option maxRecDepth 100000
set_option maxHeartbeats 16000000
namespace Go.Proofs.YtlibofjbhhdjdaaGreat
open Go.RowKit
def stmt1 (pd:Nat->PD) (d:PD):Bool:=allB (fun j=>statP (kidP pd d j)) 0 d.nk&&bareP d false false false false
def stmt2 (pd:Nat->PD) (d:PD):Bool:=((bareP d false false false true)&&((namedP d 1 200)&&exprsP pd d 0 d.nk))
def stmt3 (pd:Nat->PD) (d:PD):Bool:=decide (d.nk=1)&&((bareP d false false false true)&&((namedP d 1 1)&&exprsP pd d 0 1))
def stmt4 (pd:Nat->PD) (d:PD):Bool:=decide (d.nk=1)&&((bareP d false false false true)&&((namedP d 1 1)&&(kidP pd d 0==36)))
def stmt5 (pd:Nat->PD) (d:PD):Bool:=decide (1<=d.num)&&(decide (d.num < d.nk)&&(bareP d false true false false&&(allB (fun j=>targetP (kidP pd d j)) 0 d.num.toNat&&exprsP pd d d.num.toNat d.nk)))
def stmt6 (pd:Nat->PD) (d:PD):Bool:=decide (d.nk=1)&&((bareP d false false false false)&&(kidP pd d 0==34))
def stmt7 (pd:Nat->PD) (d:PD):Bool:=(decide (d.nk=2)&&((bareP d false false false false)&&((exprsP pd d 0 1)&&(kidP pd d 1==1))))||(decide (d.nk=3)&&((kidP pd d 2==1||kidP pd d 2==7)&&((bareP d false false false false)&&((exprsP pd d 0 1)&&(kidP pd d 1==1)))))
def stmt8 (pd:Nat->PD) (d:PD):Bool:=decide (d.nk=2)&&((bareP d false false false false)&&((exprsP pd d 0 1)&&(kidP pd d 1==1)))
def stmt9 (pd:Nat->PD) (d:PD):Bool:=(decide (d.nk=3)&&((bareP d false false false true)&&((namedP d 1 1)&&((exprsP pd d 0 2)&&(kidP pd d 2==1)))))||(decide (d.nk=4)&&((bareP d false false false true)&&((namedP d 1 1)&&((exprsP pd d 0 3)&&(kidP pd d 3==1)))))
def stmt10 (pd:Nat->PD) (d:PD):Bool:=decide (d.nk=2)&&((bareP d false false false true)&&((namedP d 1 200)&&((exprsP pd d 0 1)&&(kidP pd d 1==1))))
def stmt11 (_pd:Nat->PD) (d:PD):Bool:=decide (d.nk=0)&&bareP d false false false false
def stmt12 (_pd:Nat->PD) (d:PD):Bool:=decide (d.nk=0)&&bareP d false false false false
def stmt13 (pd:Nat->PD) (d:PD):Bool:=((bareP d false false false false)&&exprsP pd d 0 d.nk)
def stmt14 (pd:Nat->PD) (d:PD):Bool:=decide (d.nk=2)&&((bareP d false false false true)&&((namedP d 1 2)&&((kidP pd d 0==1)&&(kidP pd d 1==1))))
def stmt15 (pd:Nat->PD) (d:PD):Bool:=decide (d.nk=1)&&((bareP d false false false false)&&exprsP pd d 0 1)
def stmt16 (pd:Nat->PD) (d:PD):Bool:=decide (d.nk=1)&&((bareP d false false false false)&&(kidP pd d 0==34))
def stmtP (pd:Nat->PD) (d:PD):Bool:=
 if d.kind=1 then stmt1 pd d else
 if d.kind=2 then stmt2 pd d else
 if d.kind=3 then stmt3 pd d else
 if d.kind=4 then stmt4 pd d else
 if d.kind=5 then stmt5 pd d else
 if d.kind=6 then stmt6 pd d else
 if d.kind=7 then stmt7 pd d else
 if d.kind=8 then stmt8 pd d else
 if d.kind=9 then stmt9 pd d else
 if d.kind=10 then stmt10 pd d else
 if d.kind=11 then stmt11 pd d else
 if d.kind=12 then stmt12 pd d else
 if d.kind=13 then stmt13 pd d else
 if d.kind=14 then stmt14 pd d else
 if d.kind=15 then stmt15 pd d else
 if d.kind=16 then stmt16 pd d else
 false
theorem l6statement_any (t:TM)(m:PM)(w:World)(hst:statP m.kind=true)(hn:t.np<=1048576)(hk:m.nk<=1048576)(hnn:m.nn<=1048576)(htx:m.text.size<=1048576)(hr:∀j,j < m.nk->0<=m.kd j/\m.kd j < t.np)(hz:∀i,i < m.nn->(m.nm i).size<=1048576)(ht:t.At w)(hm:m.At w):
  Calls Tryz.prog 38 #[.agg #[.slice t.pa t.np t.pc],.agg #[.int .i64 m.kind,.int .i64 m.frm,.int .i64 m.tto,.int .i64 m.line,.int .i64 m.op,.int .i64 m.num,.float .f64 m.flt,.string m.text,.slice m.na m.nn m.nc,.slice m.ka m.nk m.kc]] w fun e w'=>e= .returned (.bool (stmtP (pdOf t.pm) m.toPD))/\Onw w w':=by
 obtain ⟨np,pm,pa,pc⟩:=t
 obtain ⟨⟨kind,F,G,L,O,N,X,S,nn,nm,nk,kd⟩,na,nc,ka,kc⟩:=m
 simp only at*
 have hall:kind=1\/kind=2\/kind=3\/kind=4\/kind=5\/kind=6\/kind=7\/kind=8\/kind=9\/kind=10\/kind=11\/kind=12\/kind=13\/kind=14\/kind=15\/kind=16:=by simp[statP] at hst;omega
 clear hst
 rcases hall with rfl|rfl|rfl|rfl|rfl|rfl|rfl|rfl|rfl|rfl|rfl|rfl|rfl|rfl|rfl|rfl
 ·exact st1_nk w np pm pa pc F G L O N X S nn nm nk kd na nc ka kc hn hk hr ht hm
 ·exact st2_nk w np pm pa pc F G L O N X S nn nm nk kd na nc ka kc ⟨hn,hk,hnn,htx,hr,hz,ht,hm⟩
 ·by_cases h:nk=1
  ·subst h;exact st3_1 w np pm pa pc F G L O N X S nn nm kd na nc ka kc ⟨hn,hk,hnn,htx,hr,hz,ht,hm⟩
  ·have h0:stmt3 (pdOf pm) (⟨3,F,G,L,O,N,X,S,nn,nm,nk,kd⟩:PD)=false:=by unfold stmt3;rw[decide_eq_false (show¬(⟨3,F,G,L,O,N,X,S,nn,nm,nk,kd⟩:PD).nk=1 from h)];rfl
   refine (st3_no w np pm pa pc F G L O N X S nn nm nk kd na nc ka kc h ⟨hn,hk,hnn,htx,hr,hz,ht,hm⟩).mono ?_
   exact J23
 ·by_cases h:nk=1
  ·subst h;exact st4_1 w np pm pa pc F G L O N X S nn nm kd na nc ka kc ⟨hn,hk,hnn,htx,hr,hz,ht,hm⟩
  ·have h0:stmt4 (pdOf pm) (⟨4,F,G,L,O,N,X,S,nn,nm,nk,kd⟩:PD)=false:=by unfold stmt4;rw[decide_eq_false (show¬(⟨4,F,G,L,O,N,X,S,nn,nm,nk,kd⟩:PD).nk=1 from h)];rfl
   refine (st4_no w np pm pa pc F G L O N X S nn nm nk kd na nc ka kc h ⟨hn,hk,hnn,htx,hr,hz,ht,hm⟩).mono ?_
   exact J23
 ·by_cases h1:1<=N
  ·by_cases h2:N < (nk:Int)
   ·obtain ⟨s,rfl⟩:=Int.eq_ofNat_of_zero_le (show 0<=N by omega)
    have h0:stmt5 (pdOf pm) (⟨5,F,G,L,O,(s:Int),X,S,nn,nm,nk,kd⟩:PD)=(bareP (⟨5,F,G,L,O,(s:Int),X,S,nn,nm,nk,kd⟩:PD) false true false false&&(allB (fun j=>targetP (kidP (pdOf pm) (⟨5,F,G,L,O,(s:Int),X,S,nn,nm,nk,kd⟩:PD) j)) 0 s&&exprsP (pdOf pm) (⟨5,F,G,L,O,(s:Int),X,S,nn,nm,nk,kd⟩:PD) s nk)):=by
     unfold stmt5;rw[decide_eq_true (show 1<=(⟨5,F,G,L,O,(s:Int),X,S,nn,nm,nk,kd⟩:PD).num from h1),decide_eq_true (show (⟨5,F,G,L,O,(s:Int),X,S,nn,nm,nk,kd⟩:PD).num < ((⟨5,F,G,L,O,(s:Int),X,S,nn,nm,nk,kd⟩:PD).nk:Int) from h2)];rfl
    refine (st5_in w np pm pa pc F G L O X S nn nm s nk kd na nc ka kc hn hk Zo Zo hr ht hm).mono ?_
    exact J23
   ·have h0:stmt5 (pdOf pm) (⟨5,F,G,L,O,N,X,S,nn,nm,nk,kd⟩:PD)=false:=by unfold stmt5;rw[decide_eq_false (show¬(⟨5,F,G,L,O,N,X,S,nn,nm,nk,kd⟩:PD).num < ((⟨5,F,G,L,O,N,X,S,nn,nm,nk,kd⟩:PD).nk:Int) from h2)];simp
    refine (st5_hi w np pa pc F G L O N X S nn nm nk kd na nc ka kc h1 Zo).mono ?_
    exact J23
  ·have h0:stmt5 (pdOf pm) (⟨5,F,G,L,O,N,X,S,nn,nm,nk,kd⟩:PD)=false:=by unfold stmt5;rw[decide_eq_false (show¬1<=(⟨5,F,G,L,O,N,X,S,nn,nm,nk,kd⟩:PD).num from h1)];simp
   refine (st5_lo w np pa pc F G L O N X S nn nm nk kd na nc ka kc Zo).mono ?_
   exact J23
 ·by_cases h:nk=1
  ·subst h;exact st6_1 w np pm pa pc F G L O N X S nn nm kd na nc ka kc ⟨hn,hk,hnn,htx,hr,hz,ht,hm⟩
  ·have h0:stmt6 (pdOf pm) (⟨6,F,G,L,O,N,X,S,nn,nm,nk,kd⟩:PD)=false:=by unfold stmt6;rw[decide_eq_false (show¬(⟨6,F,G,L,O,N,X,S,nn,nm,nk,kd⟩:PD).nk=1 from h)];rfl
   refine (st6_no w np pm pa pc F G L O N X S nn nm nk kd na nc ka kc h ⟨hn,hk,hnn,htx,hr,hz,ht,hm⟩).mono ?_
   exact J23
 ·by_cases h2:nk=2
  ·subst h2
   have h0:stmt7 (pdOf pm) (⟨7,F,G,L,O,N,X,S,nn,nm,2,kd⟩:PD)=(bareP (⟨7,F,G,L,O,N,X,S,nn,nm,2,kd⟩:PD) false false false false&&(exprsP (pdOf pm) (⟨7,F,G,L,O,N,X,S,nn,nm,2,kd⟩:PD) 0 1&&(kidP (pdOf pm) (⟨7,F,G,L,O,N,X,S,nn,nm,2,kd⟩:PD) 1==1))):=by unfold stmt7;rw[decide_eq_true (show (⟨7,F,G,L,O,N,X,S,nn,nm,2,kd⟩:PD).nk=2 from rfl),decide_eq_false (show¬(⟨7,F,G,L,O,N,X,S,nn,nm,2,kd⟩:PD).nk=3 from (by decide:¬(2:Nat)=3))];simp
   refine (st7_2 w np pm pa pc F G L O N X S nn nm kd na nc ka kc ⟨hn,hk,hnn,htx,hr,hz,ht,hm⟩).mono ?_
   exact J23
  ·by_cases h3:nk=3
   ·subst h3
    obtain ⟨q,hq⟩:∃q,kidP (pdOf pm) (⟨7,F,G,L,O,N,X,S,nn,nm,3,kd⟩:PD) 2=q:=⟨_,rfl⟩
    have h0:stmt7 (pdOf pm) (⟨7,F,G,L,O,N,X,S,nn,nm,3,kd⟩:PD)=((q==1||q==7)&&(bareP (⟨7,F,G,L,O,N,X,S,nn,nm,3,kd⟩:PD) false false false false&&(exprsP (pdOf pm) (⟨7,F,G,L,O,N,X,S,nn,nm,3,kd⟩:PD) 0 1&&(kidP (pdOf pm) (⟨7,F,G,L,O,N,X,S,nn,nm,3,kd⟩:PD) 1==1)))):=by unfold stmt7;rw[decide_eq_true (show (⟨7,F,G,L,O,N,X,S,nn,nm,3,kd⟩:PD).nk=3 from rfl),decide_eq_false (show¬(⟨7,F,G,L,O,N,X,S,nn,nm,3,kd⟩:PD).nk=2 from (by decide:¬(3:Nat)=2)),hq];simp
    by_cases q1:q=1
    ·refine (st7_3a w np pm pa pc F G L O N X S nn nm kd na nc ka kc (hq.trans q1) ⟨hn,hk,hnn,htx,hr,hz,ht,hm⟩).mono ?_
     exact J162
    by_cases q7:q=7
    ·refine (st7_3b w np pm pa pc F G L O N X S nn nm kd na nc ka kc (hq.trans q7) ⟨hn,hk,hnn,htx,hr,hz,ht,hm⟩).mono ?_
     exact J163
    refine (st7_3c w np pm pa pc F G L O N X S nn nm kd na nc ka kc q hq q1 q7 ⟨hn,hk,hnn,htx,hr,hz,ht,hm⟩).mono ?_
    exact J148
   ·have h0:stmt7 (pdOf pm) (⟨7,F,G,L,O,N,X,S,nn,nm,nk,kd⟩:PD)=false:=by unfold stmt7;rw[decide_eq_false (show¬(⟨7,F,G,L,O,N,X,S,nn,nm,nk,kd⟩:PD).nk=2 from h2),decide_eq_false (show¬(⟨7,F,G,L,O,N,X,S,nn,nm,nk,kd⟩:PD).nk=3 from h3)];simp
    by_cases hlo:nk < 2
    ·refine (st7_lo w np pm pa pc F G L O N X S nn nm nk kd na nc ka kc hlo ⟨hn,hk,hnn,htx,hr,hz,ht,hm⟩).mono ?_
     exact J23
    ·refine (st7_hi w np pm pa pc F G L O N X S nn nm nk kd na nc ka kc Zo ⟨hn,hk,hnn,htx,hr,hz,ht,hm⟩).mono ?_
     exact J23
 ·by_cases h:nk=2
  ·subst h;exact st8_2 w np pm pa pc F G L O N X S nn nm kd na nc ka kc ⟨hn,hk,hnn,htx,hr,hz,ht,hm⟩
  ·have h0:stmt8 (pdOf pm) (⟨8,F,G,L,O,N,X,S,nn,nm,nk,kd⟩:PD)=false:=by unfold stmt8;rw[decide_eq_false (show¬(⟨8,F,G,L,O,N,X,S,nn,nm,nk,kd⟩:PD).nk=2 from h)];rfl
   refine (st8_no w np pm pa pc F G L O N X S nn nm nk kd na nc ka kc h ⟨hn,hk,hnn,htx,hr,hz,ht,hm⟩).mono ?_
   exact J23
 ·by_cases h3:nk=3
  ·subst h3
   have h0:stmt9 (pdOf pm) (⟨9,F,G,L,O,N,X,S,nn,nm,3,kd⟩:PD)=(bareP (⟨9,F,G,L,O,N,X,S,nn,nm,3,kd⟩:PD) false false false true&&(namedP (⟨9,F,G,L,O,N,X,S,nn,nm,3,kd⟩:PD) 1 1&&(exprsP (pdOf pm) (⟨9,F,G,L,O,N,X,S,nn,nm,3,kd⟩:PD) 0 2&&(kidP (pdOf pm) (⟨9,F,G,L,O,N,X,S,nn,nm,3,kd⟩:PD) 2==1)))):=by unfold stmt9;rw[decide_eq_true (show (⟨9,F,G,L,O,N,X,S,nn,nm,3,kd⟩:PD).nk=3 from rfl),decide_eq_false (show¬(⟨9,F,G,L,O,N,X,S,nn,nm,3,kd⟩:PD).nk=4 from (by decide:¬(3:Nat)=4))];simp
   refine (st9_3 w np pm pa pc F G L O N X S nn nm kd na nc ka kc ⟨hn,hk,hnn,htx,hr,hz,ht,hm⟩).mono ?_
   exact J23
  ·by_cases h4:nk=4
   ·subst h4
    have h0:stmt9 (pdOf pm) (⟨9,F,G,L,O,N,X,S,nn,nm,4,kd⟩:PD)=(bareP (⟨9,F,G,L,O,N,X,S,nn,nm,4,kd⟩:PD) false false false true&&(namedP (⟨9,F,G,L,O,N,X,S,nn,nm,4,kd⟩:PD) 1 1&&(exprsP (pdOf pm) (⟨9,F,G,L,O,N,X,S,nn,nm,4,kd⟩:PD) 0 3&&(kidP (pdOf pm) (⟨9,F,G,L,O,N,X,S,nn,nm,4,kd⟩:PD) 3==1)))):=by unfold stmt9;rw[decide_eq_true (show (⟨9,F,G,L,O,N,X,S,nn,nm,4,kd⟩:PD).nk=4 from rfl),decide_eq_false (show¬(⟨9,F,G,L,O,N,X,S,nn,nm,4,kd⟩:PD).nk=3 from (by decide:¬(4:Nat)=3))];simp
    refine (st9_4 w np pm pa pc F G L O N X S nn nm kd na nc ka kc ⟨hn,hk,hnn,htx,hr,hz,ht,hm⟩).mono ?_
    exact J23
   ·have h0:stmt9 (pdOf pm) (⟨9,F,G,L,O,N,X,S,nn,nm,nk,kd⟩:PD)=false:=by unfold stmt9;rw[decide_eq_false (show¬(⟨9,F,G,L,O,N,X,S,nn,nm,nk,kd⟩:PD).nk=3 from h3),decide_eq_false (show¬(⟨9,F,G,L,O,N,X,S,nn,nm,nk,kd⟩:PD).nk=4 from h4)];simp
    refine (st9_no w np pm pa pc F G L O N X S nn nm nk kd na nc ka kc h3 h4 ⟨hn,hk,hnn,htx,hr,hz,ht,hm⟩).mono ?_
    exact J23
 ·by_cases h:nk=2
  ·subst h;exact st10_2 w np pm pa pc F G L O N X S nn nm kd na nc ka kc ⟨hn,hk,hnn,htx,hr,hz,ht,hm⟩
  ·have h0:stmt10 (pdOf pm) (⟨10,F,G,L,O,N,X,S,nn,nm,nk,kd⟩:PD)=false:=by unfold stmt10;rw[decide_eq_false (show¬(⟨10,F,G,L,O,N,X,S,nn,nm,nk,kd⟩:PD).nk=2 from h)];rfl
   refine (st10_no w np pm pa pc F G L O N X S nn nm nk kd na nc ka kc h ⟨hn,hk,hnn,htx,hr,hz,ht,hm⟩).mono ?_
   exact J23
 ·by_cases h:nk=0
  ·subst h;exact st11_0 w np pm pa pc F G L O N X S nn nm kd na nc ka kc ⟨hn,hk,hnn,htx,hr,hz,ht,hm⟩
  ·have h0:stmt11 (pdOf pm) (⟨11,F,G,L,O,N,X,S,nn,nm,nk,kd⟩:PD)=false:=by unfold stmt11;rw[decide_eq_false (show¬(⟨11,F,G,L,O,N,X,S,nn,nm,nk,kd⟩:PD).nk=0 from h)];rfl
   refine (st11_no w np pm pa pc F G L O N X S nn nm nk kd na nc ka kc h ⟨hn,hk,hnn,htx,hr,hz,ht,hm⟩).mono ?_
   exact J23
 ·by_cases h:nk=0
  ·subst h;exact st12_0 w np pm pa pc F G L O N X S nn nm kd na nc ka kc ⟨hn,hk,hnn,htx,hr,hz,ht,hm⟩
  ·have h0:stmt12 (pdOf pm) (⟨12,F,G,L,O,N,X,S,nn,nm,nk,kd⟩:PD)=false:=by unfold stmt12;rw[decide_eq_false (show¬(⟨12,F,G,L,O,N,X,S,nn,nm,nk,kd⟩:PD).nk=0 from h)];rfl
   refine (st12_no w np pm pa pc F G L O N X S nn nm nk kd na nc ka kc h ⟨hn,hk,hnn,htx,hr,hz,ht,hm⟩).mono ?_
   exact J23
 ·exact st13_nk w np pm pa pc F G L O N X S nn nm nk kd na nc ka kc ⟨hn,hk,hnn,htx,hr,hz,ht,hm⟩
 ·by_cases h:nk=2
  ·subst h;exact st14_2 w np pm pa pc F G L O N X S nn nm kd na nc ka kc ⟨hn,hk,hnn,htx,hr,hz,ht,hm⟩
  ·have h0:stmt14 (pdOf pm) (⟨14,F,G,L,O,N,X,S,nn,nm,nk,kd⟩:PD)=false:=by unfold stmt14;rw[decide_eq_false (show¬(⟨14,F,G,L,O,N,X,S,nn,nm,nk,kd⟩:PD).nk=2 from h)];rfl
   refine (st14_no w np pm pa pc F G L O N X S nn nm nk kd na nc ka kc h ⟨hn,hk,hnn,htx,hr,hz,ht,hm⟩).mono ?_
   exact J23
 ·by_cases h:nk=1
  ·subst h;exact st15_1 w np pm pa pc F G L O N X S nn nm kd na nc ka kc ⟨hn,hk,hnn,htx,hr,hz,ht,hm⟩
  ·have h0:stmt15 (pdOf pm) (⟨15,F,G,L,O,N,X,S,nn,nm,nk,kd⟩:PD)=false:=by unfold stmt15;rw[decide_eq_false (show¬(⟨15,F,G,L,O,N,X,S,nn,nm,nk,kd⟩:PD).nk=1 from h)];rfl
   refine (st15_no w np pm pa pc F G L O N X S nn nm nk kd na nc ka kc h ⟨hn,hk,hnn,htx,hr,hz,ht,hm⟩).mono ?_
   exact J23
 ·by_cases h:nk=1
  ·subst h;exact st16_1 w np pm pa pc F G L O N X S nn nm kd na nc ka kc ⟨hn,hk,hnn,htx,hr,hz,ht,hm⟩
  ·have h0:stmt16 (pdOf pm) (⟨16,F,G,L,O,N,X,S,nn,nm,nk,kd⟩:PD)=false:=by unfold stmt16;rw[decide_eq_false (show¬(⟨16,F,G,L,O,N,X,S,nn,nm,nk,kd⟩:PD).nk=1 from h)];rfl
   refine (st16_no w np pm pa pc F G L O N X S nn nm nk kd na nc ka kc h ⟨hn,hk,hnn,htx,hr,hz,ht,hm⟩).mono ?_
   exact J23
end Go.Proofs.YtlibofjbhhdjdaaGreat
namespace Go.Proofs.YtlibofjbhhdjdaaGreat
open Go.RowKit
attribute [local go_sem] rsf
variable {c:Array Value} {x:Int} {i k n np q:Nat} {f:Nat->Bool} {D S kd:Nat->Int} {pd:Nat->PD} {pa:Option Addr}
def kidsIn (d:PD) (i:Nat):Bool:=allB (fun j=>decide (0<=d.kd j)&&decide (d.kd j < i)) 0 d.nk
def shapeP (pd:Nat->PD) (d:PD):Bool:=bif statP d.kind then stmtP pd d else expnP pd d
def nodeP (pd:Nat->PD) (d:PD) (i:Nat):Bool:=
 decide (0<=d.frm)&&(decide (d.frm<=d.tto)&&(decide (0<=d.line)&&(decide (d.line<=100000)&&(decide (d.nk<=200)&&(!(statP d.kind&&d.line==0)&&(kidsIn d i&&shapeP pd d))))))
def PM.Slight (m:PM):Prop:=m.nk<=1048576/\m.nn<=1048576/\m.text.size<=1048576/\∀i,i < m.nn->(m.nm i).size<=1048576
theorem l6nodeok_any (t:TM)(i:Nat)(w:World)(hn:t.np<=1048576)(hi:i < t.np)(hs:(t.pm i).Slight)(ht:t.At w):
  Calls Tryz.prog 23 #[.agg #[.slice t.pa t.np t.pc],.int .i64 i] w fun e w'=>e= .returned (.bool (nodeP (pdOf t.pm) (t.pm i).toPD i))/\Onw w w':=by
 obtain ⟨np,pm,pa,pc⟩:=t
 simp only at*
 obtain ⟨m,hmi⟩:∃m,pm i=m:=⟨_,rfl⟩
 obtain ⟨b,off,hpa,hc⟩:=ht.1 J322
 simp only at hpa
 subst hpa
 have C:=hc i hi
 have hm:=ht.2 i hi
 simp only at C hm
 rw[hmi] at C hm hs
 rw[hmi]
 clear hc hmi
 obtain ⟨⟨kind,frm,tto,line,op,num,flt,text,nn,nm,nk,kd⟩,na,nc,ka,kc⟩:=m
 obtain ⟨c0,c1,c2,c3,c4,c5,c6,c7,c8,c9⟩:=C
 obtain ⟨hk,hnn,htx,hz⟩:=hs
 simp only at*
 have i0:(0:Int)<=(i:Int):=Zo
 have i1:(i:Int) < (np:Int):=Zo
 have ob:=Two.start w (some ⟨b,off,none⟩) np pc kind frm tto line op num flt text na nn nc ka nk kc
 have T:=Two.new w (some ⟨b,off,none⟩) np pc kind frm tto line op num flt text na nn nc ka nk kc
 have z1:=clt c0
 by_cases h1:0<=frm
 ·
  by_cases h2:frm<=tto
  ·
   by_cases h3:0<=line
   ·
    by_cases h4:line<=100000
    ·
     by_cases h5:nk<=200
     ·
      have fin:Hid (nodeP (pdOf pm) (⟨kind,frm,tto,line,op,num,flt,text,nn,nm,nk,kd⟩:PD) i=(!(statP kind&&line==0)&&(kidsIn (⟨kind,frm,tto,line,op,num,flt,text,nn,nm,nk,kd⟩:PD) i&&shapeP (pdOf pm) (⟨kind,frm,tto,line,op,num,flt,text,nn,nm,nk,kd⟩:PD)))):=by
       show _=_
       unfold nodeP;rw[decide_eq_true (show 0<=(⟨kind,frm,tto,line,op,num,flt,text,nn,nm,nk,kd⟩:PD).frm from h1),decide_eq_true (show (⟨kind,frm,tto,line,op,num,flt,text,nn,nm,nk,kd⟩:PD).frm<=(⟨kind,frm,tto,line,op,num,flt,text,nn,nm,nk,kd⟩:PD).tto from h2),decide_eq_true (show 0<=(⟨kind,frm,tto,line,op,num,flt,text,nn,nm,nk,kd⟩:PD).line from h3),decide_eq_true (show (⟨kind,frm,tto,line,op,num,flt,text,nn,nm,nk,kd⟩:PD).line<=100000 from h4),decide_eq_true (show (⟨kind,frm,tto,line,op,num,flt,text,nn,nm,nk,kd⟩:PD).nk<=200 from h5)];rfl
      go_enter Tryz.func23,Tryz.ntmps23
      go_wp2_with fail
      refine (l6stat_any kind _).mono ?_
      rintro e w1 ⟨rfl,rfl⟩
      cases hst:statP kind
      ·
       have fin2:Hid (nodeP (pdOf pm) (⟨kind,frm,tto,line,op,num,flt,text,nn,nm,nk,kd⟩:PD) i=(allB (fun j=>decide (0<=kd j)&&decide (kd j < (i:Int))) 0 nk&&expnP (pdOf pm) (⟨kind,frm,tto,line,op,num,flt,text,nn,nm,nk,kd⟩:PD))):=by
        show _=_
        rw[fin.out,hst];unfold shapeP;rw[show statP (⟨kind,frm,tto,line,op,num,flt,text,nn,nm,nk,kd⟩:PD).kind=false from hst];rfl
       go_wp2_with fail
       go_loopw [50] (fun x wr=>∃j:Nat,j<=nk/\x= .int .i64 j/\Onw w wr/\Two wr w.heap.size (some ⟨b,off,none⟩) np pc kind frm tto line op num flt text na nn nc ka nk kc/\(∀k,k < j->0<=kd k/\kd k < i)/\allB (fun j=>decide (0<=kd j)&&decide (kd j < (i:Int))) 0 nk=allB (fun j=>decide (0<=kd j)&&decide (kd j < (i:Int))) j (nk-j)) (fun x _=>nk-(intOf x).toNat)
       case atStart=>exact ⟨0,Nat.zero_le _,rfl,ob,T,fun k hk0=>absurd hk0 (Nat.not_lt_zero _),rfl⟩
       case round=>
        clear ob T
        obtain ⟨j,hj,rfl,ob,T,hin,hq⟩:=hrel
        have HQ:Hid _:=hq
        have HI:Hid _:=hin
        clear hq hin
        by_cases hlt:j < nk
        ·exact J37
        ·have st:Hid (allB (fun j=>decide (0<=kd j)&&decide (kd j < (i:Int))) j (nk-j)=true):=by
          exact J127
         have hr:∀k,k < nk->0<=kd k/\kd k < (np:Int):=fun k hk1=>⟨(HI.out k Zo).1,by have:=(HI.out k Zo).2;omega⟩
         have HRR:Hid _:=hr
         clear hr
         obtain ⟨t0,d0,d1,d2,d3,d4,d5,d6,d7,d8,d9⟩:=T
         go_wp2_with fail
         refine (l6stat_any kind _).mono ?_
         rintro e w1 ⟨rfl,rfl⟩
         rw[hst]
         go_wp2_with fail
         have hr:=HRR.out
         refine (l6expression_any ⟨np,pm,some ⟨b,off,none⟩,pc⟩ ⟨⟨kind,frm,tto,line,op,num,flt,text,nn,nm,nk,kd⟩,na,nc,ka,kc⟩ _ hn hk hnn htx hr hz (TM.At.onw ob ht) (PM.At.onw ob hm)).mono ?_
         exact J120
      ·by_cases hl:line=0
       ·have fin2:Hid (nodeP (pdOf pm) (⟨kind,frm,tto,line,op,num,flt,text,nn,nm,nk,kd⟩:PD) i=false):=by
         show _=_
         rw[fin.out,hst,hl];rfl
        subst hl
        go_wp2_with fail
        go_ret
        exact ⟨rtb fin2.out.symm,ob⟩
       ·
        have fin2:Hid (nodeP (pdOf pm) (⟨kind,frm,tto,line,op,num,flt,text,nn,nm,nk,kd⟩:PD) i=(allB (fun j=>decide (0<=kd j)&&decide (kd j < (i:Int))) 0 nk&&stmtP (pdOf pm) (⟨kind,frm,tto,line,op,num,flt,text,nn,nm,nk,kd⟩:PD))):=by
         show _=_
         rw[fin.out,hst,beq_false_of_ne hl];unfold shapeP;rw[show statP (⟨kind,frm,tto,line,op,num,flt,text,nn,nm,nk,kd⟩:PD).kind=true from hst];rfl
        have hl0:(line==0)=false:=beq_false_of_ne hl
        clear hl
        go_wp2_with fail
        go_loopw [50] (fun x wr=>∃j:Nat,j<=nk/\x= .int .i64 j/\Onw w wr/\Two wr w.heap.size (some ⟨b,off,none⟩) np pc kind frm tto line op num flt text na nn nc ka nk kc/\(∀k,k < j->0<=kd k/\kd k < i)/\allB (fun j=>decide (0<=kd j)&&decide (kd j < (i:Int))) 0 nk=allB (fun j=>decide (0<=kd j)&&decide (kd j < (i:Int))) j (nk-j)) (fun x _=>nk-(intOf x).toNat)
        case atStart=>exact ⟨0,Nat.zero_le _,rfl,ob,T,fun k hk0=>absurd hk0 (Nat.not_lt_zero _),rfl⟩
        case round=>
         clear ob T
         obtain ⟨j,hj,rfl,ob,T,hin,hq⟩:=hrel
         have HQ:Hid _:=hq
         have HI:Hid _:=hin
         clear hq hin
         by_cases hlt:j < nk
         ·exact J37
         ·have st:Hid (allB (fun j=>decide (0<=kd j)&&decide (kd j < (i:Int))) j (nk-j)=true):=by
           exact J127
          have hr:∀k,k < nk->0<=kd k/\kd k < (np:Int):=fun k hk1=>⟨(HI.out k Zo).1,by have:=(HI.out k Zo).2;omega⟩
          have HRR:Hid _:=hr
          clear hr
          obtain ⟨t0,d0,d1,d2,d3,d4,d5,d6,d7,d8,d9⟩:=T
          go_wp2_with fail
          refine (l6stat_any kind _).mono ?_
          rintro e w1 ⟨rfl,rfl⟩
          rw[hst]
          go_wp2_with fail
          have hr:=HRR.out
          refine (l6statement_any ⟨np,pm,some ⟨b,off,none⟩,pc⟩ ⟨⟨kind,frm,tto,line,op,num,flt,text,nn,nm,nk,kd⟩,na,nc,ka,kc⟩ _ hst hn hk hnn htx hr hz (TM.At.onw ob ht) (PM.At.onw ob hm)).mono ?_
          exact J120
     ·have fin:Hid (nodeP (pdOf pm) (⟨kind,frm,tto,line,op,num,flt,text,nn,nm,nk,kd⟩:PD) i=false):=by
       show _=_
       unfold nodeP;rw[decide_eq_true (show 0<=(⟨kind,frm,tto,line,op,num,flt,text,nn,nm,nk,kd⟩:PD).frm from h1),decide_eq_true (show (⟨kind,frm,tto,line,op,num,flt,text,nn,nm,nk,kd⟩:PD).frm<=(⟨kind,frm,tto,line,op,num,flt,text,nn,nm,nk,kd⟩:PD).tto from h2),decide_eq_true (show 0<=(⟨kind,frm,tto,line,op,num,flt,text,nn,nm,nk,kd⟩:PD).line from h3),decide_eq_true (show (⟨kind,frm,tto,line,op,num,flt,text,nn,nm,nk,kd⟩:PD).line<=100000 from h4),decide_eq_false (show¬(⟨kind,frm,tto,line,op,num,flt,text,nn,nm,nk,kd⟩:PD).nk<=200 from h5)];rfl
      exact J75
    ·have fin:Hid (nodeP (pdOf pm) (⟨kind,frm,tto,line,op,num,flt,text,nn,nm,nk,kd⟩:PD) i=false):=by
      show _=_
      unfold nodeP;rw[decide_eq_true (show 0<=(⟨kind,frm,tto,line,op,num,flt,text,nn,nm,nk,kd⟩:PD).frm from h1),decide_eq_true (show (⟨kind,frm,tto,line,op,num,flt,text,nn,nm,nk,kd⟩:PD).frm<=(⟨kind,frm,tto,line,op,num,flt,text,nn,nm,nk,kd⟩:PD).tto from h2),decide_eq_true (show 0<=(⟨kind,frm,tto,line,op,num,flt,text,nn,nm,nk,kd⟩:PD).line from h3),decide_eq_false (show¬(⟨kind,frm,tto,line,op,num,flt,text,nn,nm,nk,kd⟩:PD).line<=100000 from h4)];rfl
     exact J75
   ·have fin:Hid (nodeP (pdOf pm) (⟨kind,frm,tto,line,op,num,flt,text,nn,nm,nk,kd⟩:PD) i=false):=by
     show _=_
     unfold nodeP;rw[decide_eq_true (show 0<=(⟨kind,frm,tto,line,op,num,flt,text,nn,nm,nk,kd⟩:PD).frm from h1),decide_eq_true (show (⟨kind,frm,tto,line,op,num,flt,text,nn,nm,nk,kd⟩:PD).frm<=(⟨kind,frm,tto,line,op,num,flt,text,nn,nm,nk,kd⟩:PD).tto from h2),decide_eq_false (show¬0<=(⟨kind,frm,tto,line,op,num,flt,text,nn,nm,nk,kd⟩:PD).line from h3)];rfl
    exact J75
  ·have fin:Hid (nodeP (pdOf pm) (⟨kind,frm,tto,line,op,num,flt,text,nn,nm,nk,kd⟩:PD) i=false):=by
    show _=_
    unfold nodeP;rw[decide_eq_true (show 0<=(⟨kind,frm,tto,line,op,num,flt,text,nn,nm,nk,kd⟩:PD).frm from h1),decide_eq_false (show¬(⟨kind,frm,tto,line,op,num,flt,text,nn,nm,nk,kd⟩:PD).frm<=(⟨kind,frm,tto,line,op,num,flt,text,nn,nm,nk,kd⟩:PD).tto from h2)];rfl
   exact J75
 ·have fin:Hid (nodeP (pdOf pm) (⟨kind,frm,tto,line,op,num,flt,text,nn,nm,nk,kd⟩:PD) i=false):=by
   show _=_
   unfold nodeP;rw[decide_eq_false (show¬0<=(⟨kind,frm,tto,line,op,num,flt,text,nn,nm,nk,kd⟩:PD).frm from h1)];rfl
  exact J75
def Arr (c:Array Value) (n:Nat) (f:Nat->Int):Prop:=c.size=n/\∀k,k < n->c[k]?= some (.int .i64 (f k))
theorem Arr.set {f:Nat->Int}(h:Arr c n f)(i:Nat)(v:Int){g:Nat->Int}(hg:∀k,k < n->g k=if k=i then v else f k):Arr (c.setIfInBounds i (.int .i64 v)) n g:=by
 refine ⟨by simpa using h.1,fun k hk=>?_⟩
 rw[hg k hk]
 by_cases e:i=k
 ·subst e;simp[h.1,hk]
 ·simp only[if_neg (fun x:k=i=>e x.symm)]
  have:=h.2 k hk
  simp only[Array.getElem?_setIfInBounds,e,if_false];exact this
theorem Arr.congr {f g:Nat->Int}(h:Arr c n f)(e:∀k,k < n->g k=f k):Arr c n g:=⟨h.1,fun k hk=>by rw[e k hk];exact h.2 k hk⟩
theorem made_int (n i:Nat)(h:i < n):(madeCells #[.int .i64 0] n)[i]?= some (.int .i64 0):=by
 simp[madeCells,h,Nat.mod_one]
def downS (S:Nat->Int) (kd:Nat->Int):Nat->Int->Option Int
 |0,a=>some a
 |j+1,a=>bif (kd j==a-1)&&!(S (kd j).toNat==0) then downS S kd j (a-S (kd j).toNat) else none
def fromDown (i:Nat):Option Int->Int
 |some a=>i-a+1
 |none=>0
def sizesN (pd:Nat->PD):Nat->Nat->Int
 |0=>fun _=>0
 |i+1=>fun k=>if k=i then fromDown i (downS (sizesN pd i) (pd i).kd (pd i).nk i) else sizesN pd i k
theorem downS_le (hS:∀k:Nat,0<=S k/\S k<=k+1):∀(j:Nat) (a r:Int),(∀q,q < j->0<=kd q)->0<=a->downS S kd j a=some r->0<=r/\r<=a
 |0,a,r,_,h0,h=>by simp only[downS,Option.some.injEq] at h;omega
 |j+1,a,r,hk,h0,h=>by
  unfold downS at h
  cases hc:(kd j==a-1)&&!(S (kd j).toNat==0)
  ·rw[hc] at h;simp at h
  ·rw[hc] at h
   simp only[cond_true] at h
   have k0:=hk j Zo
   have s0:=hS (kd j).toNat
   simp only[Bool.and_eq_true,beq_iff_eq,Bool.not_eq_true',beq_eq_false_iff_ne] at hc
   have:=downS_le hS j _ r (fun q hq=>hk q Zo) Zo h
   omega
theorem sizesN_le (hks:∀i,i < np->∀j,j < (pd i).nk->0<=(pd i).kd j):∀i,i<=np->∀k:Nat,0<=sizesN pd i k/\sizesN pd i k<=k+1
 |0,_,k=>by simp only[sizesN];omega
 |i+1,hi,k=>by
  have ih:=sizesN_le hks i Zo
  simp only[sizesN]
  by_cases e:k=i
  ·rw[if_pos e]
   cases hd:downS (sizesN pd i) (pd i).kd (pd i).nk i
   ·simp only[fromDown];omega
   ·have:=downS_le ih _ _ _ (hks i Zo) Zo hd
    simp only[fromDown];omega
  ·rw[if_neg e];exact ih k
theorem sizesN_zero (pd:Nat->PD):∀i k,i<=k->sizesN pd i k=0
 |0,_,_=>rfl
 |i+1,k,h=>by simp only[sizesN];rw[if_neg Zo];exact sizesN_zero pd i k Zo
theorem downS_step (h:kd q=(k:Int))(e:(k:Int)=x-1)(z:S k≠0):downS S kd (q+1) x=downS S kd q (x-S k):=by
 rw[downS,h,Int.toNat_natCast,beq_iff_eq.mpr e,beq_false_of_ne z];rfl
theorem downS_off (h:kd q=(k:Int))(e:¬(k:Int)=x-1):downS S kd (q+1) x=none:=by
 rw[downS,h,Int.toNat_natCast,beq_false_of_ne e];rfl
theorem downS_nil (h:kd q=(k:Int))(z:S k=0):downS S kd (q+1) x=none:=by
 rw[downS,h,Int.toNat_natCast,z];simp
structure SzAt (w0 w:World) (pa:Option Addr) (np pc g:Nat) (c:Array Value):Prop where
 onw:Onw w0 w
 t0:Blk w w0.heap.size 30 #[.slice pa np pc]
 b1:Blk w g 3 c
 d:w0.heap.size < g
theorem SzAt.set {w0 w:World}{np pc g:Nat}(G:SzAt w0 w pa np pc g c)(i:Nat)(v:Value):SzAt w0 (w.setCell ⟨g,i,none⟩ v) pa np pc g (c.setIfInBounds i v):=by
 obtain ⟨h1,h2,h3,h4⟩:=G
 exact ⟨bset h1 Zo v,h2.kept (ksc w g i v) Zo,h3.set i v,h4⟩
theorem SzAt.on {w0 w w':World}{np pc g:Nat}(G:SzAt w0 w pa np pc g c)(h:Onw w w'):SzAt w0 w' pa np pc g c:=
 ⟨G.onw.trans h,G.t0.onw h,G.b1.onw h,G.d⟩
theorem l6sizes_any (t:TM)(w:World)(h0:0 < t.np)(hn:t.np<=1048576)(hkn:∀i,i < t.np->(t.pm i).nk<=1048576)(hks:∀i,i < t.np->∀j,j < (t.pm i).nk->0<=(t.pm i).kd j/\(t.pm i).kd j < i)(ht:t.At w):
  Calls Tryz.prog 24 #[.agg #[.slice t.pa t.np t.pc]] w fun e w'=>∃a,e= .returned (.slice a t.np t.np)/\Onw w w'/\IntsAt w' a t.np (sizesN (pdOf t.pm) t.np)/\Frm w.heap.size a:=by
 obtain ⟨np,pm,pa,pc⟩:=t
 simp only at*
 have hmk:=run_make_ints np hn
 have HKS:Hid _:=hks
 have HKN:Hid _:=hkn
 have HT:Hid _:=ht
 have HS:Hid _:=sizesN_le (pd:=pdOf pm) (np:=np) fun i hi j hj=>(hks i hi j hj).1
 clear hks hkn ht
 go_enter Tryz.func24,Tryz.ntmps24
 go_wp2_with fail
 clear hmk
 go_loopw [17] (fun x wr=>∃i:Nat,i<=np/\x= .int .i64 i/\∃c,SzAt w wr pa np pc (w.heap.size+1) c/\Arr c np (sizesN (pdOf pm) i)) (fun x _=>np-(intOf x).toNat)
 case atStart=>
  refine ⟨0,Nat.zero_le _,rfl,_,⟨(Onw.alloc _ _).trans (Onw.alloc _ _),(Blk.new _ _ _).onw (Onw.alloc _ _),?_,by omega⟩,size_madeCells _ _,fun k hk=>made_int np k hk⟩
  have:=Blk.new (w.alloc (Obj.cells #[.slice pa np pc] 30)) 3 (madeCells #[.int .i64 0] np)
  simpa only [World.size_alloc] using this
 case round=>
  obtain ⟨i,hi,rfl,c,G,A⟩:=hrel
  have HG:Hid _:=G
  have HA:Hid _:=A
  clear G A
  by_cases hlt:i < np
  ·obtain ⟨b,off,hpa,hc⟩:=(PartsAt.onw HG.out.onw HT.out).1 J322
   subst hpa
   obtain ⟨p0,p1,p2,p3,p4,p5,p6,p7,p8,p9⟩:=hc i hlt
   clear hc
   have hI:=(HT.out.2 i hlt).2
   have hkn':=HKN.out i hlt
   have zb:=clt p0
   obtain ⟨KA,hKA⟩:∃KA,(pm i).ka=KA:=⟨_,rfl⟩
   rw[hKA] at p9 hI
   clear hKA
   obtain ⟨w0,hw0⟩:∃x,x=wr:=⟨_,rfl⟩
   subst hw0
   go_wp2_with fail
   have B:=Blk.new w0 67 #[.int .i64 (pm i).kind,.int .i64 (pm i).frm,.int .i64 (pm i).tto,.int .i64 (pm i).line,.int .i64 (pm i).op,.int .i64 (pm i).num,.float .f64 (pm i).flt,.string (pm i).text,.slice (pm i).na (pm i).nn (pm i).nc,.slice KA (pm i).nk (pm i).kc]
   have O2:=Onw.alloc w0 (Obj.cells #[.int .i64 (pm i).kind,.int .i64 (pm i).frm,.int .i64 (pm i).tto,.int .i64 (pm i).line,.int .i64 (pm i).op,.int .i64 (pm i).num,.float .f64 (pm i).flt,.string (pm i).text,.slice (pm i).na (pm i).nn (pm i).nc,.slice KA (pm i).nk (pm i).kc] 67)
   clear p0 p1 p2 p3 p4 p5 p6 p7 p8 p9
   have G2:=HG.out.on O2
   generalize w0.alloc (Obj.cells #[.int .i64 (pm i).kind,.int .i64 (pm i).frm,.int .i64 (pm i).tto,.int .i64 (pm i).line,.int .i64 (pm i).op,.int .i64 (pm i).num,.float .f64 (pm i).flt,.string (pm i).text,.slice (pm i).na (pm i).nn (pm i).nc,.slice KA (pm i).nk (pm i).kc] 67)=w2 at B O2 G2 ⊢
   have x9:=Blk.at_ B 9 rfl
   clear B
   go_loopw [6,7,8] (fun a o j wr2=>∃(q:Nat) (x:Int),q<=(pm i).nk/\a= .int .i64 x/\o= .bool true/\j= .int .i64 ((q:Int)-1)/\0<=x/\x<=i/\Onw w2 wr2/\downS (sizesN (pdOf pm) i) (pm i).kd (pm i).nk i=downS (sizesN (pdOf pm) i) (pm i).kd q x) (fun _ _ j _=>(intOf j+1).toNat)
   case atStart=>exact ⟨(pm i).nk,i,Nat.le_refl _,rfl,rfl,rfl,by omega,by omega,Onw.refl _,rfl⟩
   case round=>
    obtain ⟨q,x,hq,rfl,rfl,hj,hx0,hx1,ob2,hd⟩:=hrel
    have HD:Hid _:=hd
    have HG3:Hid _:=G2.on ob2
    replace x9:=con ob2 x9
    have z9:=clt x9
    have zg:=HG3.out.b1.lt
    clear hd
    by_cases hq0:0 < q
    ·obtain ⟨q',rfl⟩:∃q',q=q'+1:=⟨q-1,by omega⟩
     rw[show (((q'+1:Nat):Int)-1)=(q':Int) from by omega] at hj
     subst hj
     obtain ⟨kb,ko,hka,hcc⟩:=hI.onw ((HG.out.onw).trans (O2.trans ob2)) Zo
     subst hka
     have k0:=hcc q' Zo
     clear hcc
     obtain ⟨j0,j1⟩:=HKS.out i hlt q' Zo
     obtain ⟨k,hk⟩:=Int.eq_ofNat_of_zero_le j0
     have HK:Hid _:=hk
     rw[hk] at k0 j1
     clear hk j0
     obtain ⟨sv,hsv⟩:∃sv,sizesN (pdOf pm) i k=sv:=⟨_,rfl⟩
     have hb:=HS.out i Zo k
     rw[hsv] at hb
     have s0:wr.cell? ⟨w.heap.size+1,k,none⟩=some (.int .i64 sv):=by
      rw[HG3.out.b1.cell,<-hsv];exact HA.out.2 k Zo
     have HV:Hid _:=hsv
     clear hsv
     obtain ⟨b0,b1⟩:=hb
     have zk:=clt k0
     have kn:(k:Int) < (np:Int):=Zo
     have qn:(q':Int) < ((pm i).nk:Int):=Zo
     by_cases y0:(k:Int)=x-1
     ·obtain rfl:x=(k:Int)+1:=Zo
      clear y0
      by_cases y1:sv=0
      ·subst y1
       go_wp2_with fail
       go_roundw
       case rel=>
        refine ⟨i+1,by omega,by go_num,c,?_,Arr.congr HA.out fun m _=>?_⟩
        ·exact J166
        ·simp only[sizesN]
         by_cases e:m=i
         ·rw[if_pos e,e,sizesN_zero _ i i (Nat.le_refl _)]
          show fromDown i (downS (sizesN (pdOf pm) i) (pm i).kd (pm i).nk i)=0
          rw[HD.out,downS_nil HK.out HV.out];rfl
         ·rw[if_neg e]
       case measure=>simp[intOf] <;> omega
      ·go_wp2_with fail
       go_roundw
       case rel=>exact ⟨q',(k:Int)+1-sv,by omega,by go_num,rfl,by go_num,by omega,by omega,by first|exact ob2|exact ob2.trans (Below.drew (Onw.refl _))|exact ob2.trans (below_drewN (Onw.refl _) _),by rw[HD.out,downS_step HK.out Zo (by rw[HV.out];exact y1),HV.out]⟩
       case measure=>simp[intOf] <;> omega
     ·
      go_wp2_with fail
      go_roundw
      case rel=>
       refine ⟨i+1,by omega,by go_num,c,?_,Arr.congr HA.out fun m _=>?_⟩
       ·exact J166
       ·simp only[sizesN]
        by_cases e:m=i
        ·rw[if_pos e,e,sizesN_zero _ i i (Nat.le_refl _)]
         show fromDown i (downS (sizesN (pdOf pm) i) (pm i).kd (pm i).nk i)=0
         rw[HD.out,downS_off HK.out Zo];rfl
        ·rw[if_neg e]
      case measure=>simp[intOf] <;> omega
    ·obtain rfl:q=0:=Zo
     subst hj
     have f1:=HG3.out.b1.free
     obtain ⟨v0,gx⟩:=HG3.out.b1.some (j:=i) (by rw[HA.out.1];exact hlt)
     have xi:(i:Int)-x+1<=1048577:=Zo
     go_wp2_with fail
     go_roundw
     case rel=>
      refine ⟨i+1,by omega,by go_num,_,HG3.out.set i _,Arr.set HA.out i _ fun m _=>?_⟩
      simp only[sizesN]
      by_cases e:m=i
      ·rw[if_pos e,if_pos e]
       show fromDown i (downS (sizesN (pdOf pm) i) (pm i).kd (pm i).nk i)=_
       rw[HD.out];rfl
      ·rw[if_neg e,if_neg e]
     case measure=>simp[intOf] <;> omega
  ·go_wp2_with fail
   go_ret
   have:i=np:=Zo
   subst this
   refine ⟨_,rfl,HG.out.onw,fun _=>⟨_,_,rfl,fun k hk=>?_⟩,?_⟩
   ·rw[HG.out.b1.cell];simpa using HA.out.2 k hk
   ·intro x hx;cases hx;exact Nat.le_succ _
def firstBad (f:Nat->Bool):Nat->Nat->Option Nat
 |_,0=>none
 |i,n+1=>bif f i then firstBad f (i+1) n else some i
theorem firstBad_ok (h:i < n)(hf:f i=true):firstBad f i (n-i)=firstBad f (i+1) (n-(i+1)):=by
 exact J215
theorem firstBad_bad (h:i < n)(hf:f i=false):firstBad f i (n-i)=some i:=by
 exact J215
theorem firstBad_end (h:¬i < n):firstBad f i (n-i)=none:=by
 rw[show n-i=0 from by omega];rfl
def dep1 (D:Nat->Int) (kd:Nat->Int) (i:Nat):Nat->Nat->Int
 |0=>D
 |j+1=>fun k=>if (k:Int)=kd j then dep1 D kd i j i+1 else dep1 D kd i j k
def depD (pd:Nat->PD) (np:Nat):Nat->Nat->Int
 |0=>fun _=>0
 |s+1=>dep1 (depD pd np s) (pd (np-1-s)).kd (np-1-s) (pd (np-1-s)).nk
theorem dep1_at :∀j,(∀q,q < j->kd q < i)->dep1 D kd i j i=D i
 |0,_=>rfl
 |j+1,h=>by
  simp only[dep1]
  rw[if_neg (by have:=h j (by omega);omega)]
  exact dep1_at j fun q hq=>h q Zo
theorem dep1_le {s:Int}(hD:∀k,0<=D k/\D k<=s):∀j,(∀q,q < j->kd q < i)->∀k,0<=dep1 D kd i j k/\dep1 D kd i j k<=s+1
 |0,_,k=>by have:=hD k;simp only[dep1];omega
 |j+1,h,k=>by
  have h':∀q,q < j->kd q < i:=fun q hq=>h q Zo
  simp only[dep1]
  by_cases e:(k:Int)=kd j
  ·rw[if_pos e,dep1_at j h'];have:=hD i;omega
  ·rw[if_neg e];exact dep1_le hD j h' k
theorem depD_le (hks:∀i,i < np->∀j,j < (pd i).nk->(pd i).kd j < i):∀s,s<=np->∀k,0<=depD pd np s k/\depD pd np s k<=s
 |0,_,_=>by simp[depD]
 |s+1,h,k=>by
  have:=dep1_le (depD_le hks s Zo) (pd (np-1-s)).nk (hks (np-1-s) Zo) k
  simp only[depD];omega
def after (c:Int) (o:Option Nat) (r:Int×Int):Int×Int:=match o with|some i=>(c,i)|none=>r
def specT (pd:Nat->PD) (np:Nat):Int×Int:=
 bif decide (0 < np)&&(decide (np<=3000)&&((pd (np-1)).kind==1)) then
  after 2 (firstBad (fun i=>nodeP pd (pd i) i) 0 np) (after 3 (firstBad (fun i=>!(sizesN pd np i==0)) 0 np)
   (bif sizesN pd np (np-1)==np then after 4 (firstBad (fun i=>decide (depD pd np np i<=100)) 0 np) (0,0) else (3,(np:Int)-1)))
 else (1,0)
theorem nodeP_kids {d:PD}(h:nodeP pd d i=true):∀j,j < d.nk->0<=d.kd j/\d.kd j < i:=by
 have hk:kidsIn d i=true:=by
  unfold nodeP at h
  simp only[Bool.and_eq_true] at h
  exact h.2.2.2.2.2.2.1
 have go:∀n s,allB (fun j=>decide (0<=d.kd j)&&decide (d.kd j < (i:Int))) s n=true->∀j,s<=j->j < s+n->0<=d.kd j/\d.kd j < i:=by
  intro n
  induction n with
  |zero=>intro s _ j h1 h2;omega
  |succ n ih=>
   intro s hs j h1 h2
   have hs':((decide (0<=d.kd s)&&decide (d.kd s < (i:Int)))&&allB (fun j=>decide (0<=d.kd j)&&decide (d.kd j < (i:Int))) (s+1) n)=true:=hs
   simp only[Bool.and_eq_true,decide_eq_true_eq] at hs'
   by_cases e:j=s
   ·subst e;exact hs'.1
   ·exact ih (s+1) hs'.2 j Zo Zo
 intro j hj
 exact go d.nk 0 hk j (Nat.zero_le _) Zo
theorem specTree_bad (t:TM)(w:World)(hn:t.np<=1048576)(ht:t.At w)(hb:(decide (0 < t.np)&&(decide (t.np<=3000)&&(((pdOf t.pm) (t.np-1)).kind==1)))=false):
  Calls Tryz.prog 14 #[.agg #[.slice t.pa t.np t.pc]] w fun e w'=>e= .returned (.agg #[.int .i64 1,.int .i64 0])/\Onw w w':=by
 obtain ⟨np,pm,pa,pc⟩:=t
 simp only at*
 by_cases h0:np=0
 ·subst h0
  exact J79
 ·by_cases h1:np<=3000
  ·have hk:¬(pm (np-1)).kind=1:=by
    intro e
    rw[decide_eq_true (show 0 < np by omega),decide_eq_true h1,show (pdOf pm (np-1)).kind=1 from e] at hb
    simp at hb
   obtain ⟨b,off,hpa,hc⟩:=ht.1 J322
   simp only at hpa
   subst hpa
   have p0:=(hc (np-1) (by show _ < np;omega)).c0
   simp only at p0
   obtain ⟨l,hl⟩:∃l,np-1=l:=⟨_,rfl⟩
   rw[hl] at p0 hk
   obtain rfl:np=l+1:=Zo
   clear hl hb hc ht
   have zb:=clt p0
   have n0:((l:Int)+1==0)=false:=beq_false_of_ne Zo
   have n1:decide (3000 < (l:Int)+1)=false:=decide_eq_false Zo
   have k1:((pm l).kind !=1)=true:=bne_iff_ne.mpr hk
   clear hk
   exact J79
  ·exact J79
theorem ret_wrong {p:Int×Int}{c i:Int}(h:p=(c,i)):Ending.returned (.agg #[.int .i64 c,.int .i64 i])=Ending.returned (.agg #[.int .i64 p.1,.int .i64 p.2]):=by rw[h]
theorem specTree_good (l:Nat)(pm:Nat->PM)(pa:Option Addr)(pc:Nat)(w:World)(hl:l+1<=3000)(hk:(pm l).kind=1)(hs:∀i,i < l+1->(pm i).Slight)(ht:TM.At w ⟨l+1,pm,pa,pc⟩):
  Calls Tryz.prog 14 #[.agg #[.slice pa (l+1:Nat) pc]] w fun e w'=>e= .returned (.agg #[.int .i64 (specT (pdOf pm) (l+1)).1,.int .i64 (specT (pdOf pm) (l+1)).2])/\Onw w w':=by
 have fin:Hid (specT (pdOf pm) (l+1)=after 2 (firstBad (fun i=>nodeP (pdOf pm) (pdOf pm i) i) 0 (l+1)) (after 3 (firstBad (fun i=>!(sizesN (pdOf pm) (l+1) i==0)) 0 (l+1))
   (bif sizesN (pdOf pm) (l+1) l==((l+1:Nat):Int) then after 4 (firstBad (fun i=>decide (depD (pdOf pm) (l+1) (l+1) i<=100)) 0 (l+1)) (0,0) else (3,((l+1:Nat):Int)-1)))):=by
  show _=_
  unfold specT
  rw[decide_eq_true (show 0 < l+1 by omega),decide_eq_true hl,show (pdOf pm (l+1-1)).kind=1 from hk];rfl
 have HS:Hid _:=hs
 have HT:Hid _:=ht
 obtain ⟨b,off,hpa,hc⟩:=ht.1 (by show 0 < l+1;omega)
 simp only at hpa
 subst hpa
 have p0:=(hc l (by show l < l+1;omega)).c0
 simp only at p0
 rw[hk] at p0
 clear hc ht hs hk
 have zb:=clt p0
 have n0:((l:Int)+1==0)=false:=beq_false_of_ne Zo
 have n1:decide (3000 < (l:Int)+1)=false:=decide_eq_false Zo
 go_enter Tryz.func14,Tryz.ntmps14
 go_wp2_with fail
 clear p0
 go_loopw [39] (fun x wr=>∃i:Nat,i<=l+1/\x= .int .i64 i/\Onw w wr/\Blk wr w.heap.size 30 #[.slice (some ⟨b,off,none⟩) (l+1) pc]/\Blk wr (w.heap.size+1) 39 #[.int .i64 0,.int .i64 0]/\(∀k,k < i->nodeP (pdOf pm) (pdOf pm k) k=true)/\firstBad (fun i=>nodeP (pdOf pm) (pdOf pm i) i) 0 (l+1)=firstBad (fun i=>nodeP (pdOf pm) (pdOf pm i) i) i (l+1-i)) (fun x _=>l+1-(intOf x).toNat)
 case atStart=>
  refine ⟨0,Nat.zero_le _,rfl,(Onw.alloc _ _).trans (Onw.alloc _ _),(Blk.new _ _ _).onw (Onw.alloc _ _),?_,fun k hk=>absurd hk (Nat.not_lt_zero _),rfl⟩
  have:=Blk.new (w.alloc (Obj.cells #[.slice (some ⟨b,off,none⟩) (l+1) pc] 30)) 39 #[.int .i64 0,.int .i64 0]
  simpa only [World.size_alloc] using this
 case round=>
  obtain ⟨i,hi,rfl,ob,B1,B2,hok,hf⟩:=hrel
  have HF:Hid _:=hf
  have HO:Hid _:=hok
  clear hf hok
  by_cases hlt:i < l+1
  ·have x0:=Blk.at_ B1 0 rfl
   go_wp2_with fail
   refine (l6nodeok_any ⟨l+1,pm,some ⟨b,off,none⟩,pc⟩ i _ Zh hlt (HS.out i hlt) (TM.At.onw ob HT.out)).mono ?_
   rintro e w1 ⟨rfl,O1⟩
   replace B1:=B1.onw O1
   replace B2:=B2.onw O1
   replace ob:=ob.trans O1
   clear O1 x0
   obtain ⟨q,hq⟩:∃q,nodeP (pdOf pm) (pm i).toPD i=q:=⟨_,rfl⟩
   dsimp only
   rw[hq]
   have HQ:Hid _:=hq
   clear hq
   have f2:=B2.free
   have y0:=Blk.at_ B2 0 rfl
   have y1:=Blk.at_ B2 1 rfl
   cases q
   ·go_wp2_with fail
    exact bodyPost_ret (v:= .agg #[.int .i64 2,.int .i64 i]) J279 rfl ⟨ret_wrong (by rw[fin.out,HF.out,firstBad_bad (f:=fun i=>nodeP (pdOf pm) (pdOf pm i) i) hlt HQ.out];rfl),bset (bset ob Zo _) Zo _⟩
   ·go_wp2_with fail
    go_roundw
    case rel=>
     refine ⟨i+1,by omega,by go_num,ob,B1,B2,fun k hk=>?_,by rw[HF.out,firstBad_ok (f:=fun i=>nodeP (pdOf pm) (pdOf pm i) i) hlt HQ.out]⟩
     by_cases e:k=i
     ·subst e;exact HQ.out
     ·exact HO.out k Zo
    case measure=>simp[intOf] <;> omega
  ·have hE:Hid (firstBad (fun i=>nodeP (pdOf pm) (pdOf pm i) i) 0 (l+1)=none):=by show _=_;rw[HF.out,firstBad_end hlt]
   have HK:Hid (∀i,i < l+1->∀j,j < (pm i).nk->0<=(pm i).kd j/\(pm i).kd j < i):=fun i' hi'=>nodeP_kids (HO.out i' Zo)
   clear HF HO
   obtain rfl:i=l+1:=Zo
   clear hlt hi
   have x0:=Blk.at_ B1 0 rfl
   go_wp2_with fail
   refine (l6sizes_any ⟨l+1,pm,some ⟨b,off,none⟩,pc⟩ _ Zh Zh (fun i' hi'=>(HS.out i' hi').1) HK.out (TM.At.onw ob HT.out)).mono ?_
   rintro e w1 ⟨sa,rfl,O1,hI,hF⟩
   replace B1:=B1.onw O1
   replace B2:=B2.onw O1
   replace ob:=ob.trans O1
   clear O1 x0
   dsimp only at hI
   obtain ⟨g,o,hsa,hz⟩:=hI Zo
   subst hsa
   have HZ:Hid _:=hz
   have HF:Hid _:=hF
   clear hz hF hI
   obtain ⟨w0,hw0⟩:∃x,x=w1:=⟨_,rfl⟩
   subst hw0
   obtain ⟨wA,hwA⟩:∃x,x=wr:=⟨_,rfl⟩
   subst hwA
   go_wp2_with fail
   go_loopw [53] (fun x wr=>∃i:Nat,i<=l+1/\x= .int .i64 i/\Onw w0 wr/\firstBad (fun i=>!(sizesN (pdOf pm) (l+1) i==0)) 0 (l+1)=firstBad (fun i=>!(sizesN (pdOf pm) (l+1) i==0)) i (l+1-i)) (fun x _=>l+1-(intOf x).toNat)
   case atStart=>exact ⟨0,Nat.zero_le _,rfl,Onw.refl _,rfl⟩
   case round=>
    obtain ⟨i,hi,rfl,o2,hf⟩:=hrel
    have HB:Hid _:=hf
    clear hf
    replace B1:=B1.onw o2
    replace B2:=B2.onw o2
    replace ob:=ob.trans o2
    have f2:=B2.free
    have y0:=Blk.at_ B2 0 rfl
    have y1:=Blk.at_ B2 1 rfl
    by_cases hlt:i < l+1
    ·have s0:=con o2 (HZ.out i hlt)
     have zs:=clt s0
     obtain ⟨sv,hsv⟩:∃sv,sizesN (pdOf pm) (l+1) i=sv:=⟨_,rfl⟩
     rw[hsv] at s0
     have HV:Hid _:=hsv
     clear hsv
     by_cases e:sv=0
     ·subst e
      go_wp2_with fail
      exact bodyPost_ret (v:= .agg #[.int .i64 3,.int .i64 i]) J279 rfl ⟨ret_wrong (by rw[fin.out,hE.out,HB.out,firstBad_bad (f:=fun i=>!(sizesN (pdOf pm) (l+1) i==0)) hlt (by rw[HV.out];rfl)];rfl),bset (bset ob Zo _) Zo _⟩
     ·go_wp2_with fail
      go_roundw
      case rel=>exact ⟨i+1,by omega,by go_num,o2,by rw[HB.out,firstBad_ok (f:=fun i=>!(sizesN (pdOf pm) (l+1) i==0)) hlt (by rw[HV.out,beq_false_of_ne e];rfl)]⟩
      case measure=>simp[intOf] <;> omega
    ·have hE3:Hid (firstBad (fun i=>!(sizesN (pdOf pm) (l+1) i==0)) 0 (l+1)=none):=by show _=_;rw[HB.out,firstBad_end hlt]
     clear HB
     obtain rfl:i=l+1:=Zo
     clear hlt hi
     have s0:=con o2 (HZ.out l Zo)
     have zs:=clt s0
     obtain ⟨sv,hsv⟩:∃sv,sizesN (pdOf pm) (l+1) l=sv:=⟨_,rfl⟩
     rw[hsv] at s0
     have HV:Hid _:=hsv
     clear hsv
     by_cases e:sv=(l:Int)+1
     ·subst e
      have x0:=Blk.at_ B1 0 rfl
      have z0:=clt x0
      have hmk:=run_make_ints (l+1) Zo
      simp only[show (((l+1:Nat)):Int)=(l:Int)+1 from rfl] at hmk
      go_wp2_with fail
      clear hmk s0 y0 y1 f2
      obtain ⟨gd,hgd⟩:∃gd,wr.heap.size=gd:=⟨_,rfl⟩
      have zr:=B2.lt
      have Bd:=Blk.new wr 3 (madeCells #[.int .i64 0] (l+1))
      have O2:=Onw.alloc wr (Obj.cells (madeCells #[.int .i64 0] (l+1)) 3)
      rw[hgd] at z0 zr Bd ⊢
      have G2:SzAt w _ (some ⟨b,off,none⟩) (l+1) pc gd _:=⟨ob.trans O2,B1.onw O2,Bd,z0⟩
      replace B2:=B2.onw O2
      clear x0 Bd
      generalize wr.alloc (Obj.cells (madeCells #[.int .i64 0] (l+1)) 3)=w2 at*
      have A0:Arr (madeCells #[.int .i64 0] (l+1)) (l+1) (depD (pdOf pm) (l+1) 0):=⟨size_madeCells _ _,fun k hk=>made_int _ k hk⟩
      generalize madeCells #[.int .i64 0] (l+1)=c0 at G2 A0
      go_loopw [8] (fun x wr2=>∃(s:Nat) (c:Array Value),s<=l+1/\x= .int .i64 ((l:Int)-s)/\SzAt w wr2 (some ⟨b,off,none⟩) (l+1) pc gd c/\Blk wr2 (w.heap.size+1) 39 #[.int .i64 0,.int .i64 0]/\Arr c (l+1) (depD (pdOf pm) (l+1) s)) (fun x _=>(intOf x+1).toNat)
      case atStart=>exact ⟨0,c0,Nat.zero_le _,by simp,G2,B2,A0⟩
      case round=>
       clear G2 B2 A0 O2
       obtain ⟨s,c,hs,hx,G,B2,A⟩:=hrel
       have HG:Hid _:=G
       have HA:Hid _:=A
       have HB2:Hid _:=B2
       clear G A B2
       by_cases hsl:s < l+1
       ·obtain ⟨i,hi⟩:∃i,l=i+s:=⟨l-s,by omega⟩
        rw[show (l:Int)-(s:Int)=(i:Int) by omega] at hx
        subst hx
        have hil:i < l+1:=Zo
        have hd:Hid (depD (pdOf pm) (l+1) (s+1)=dep1 (depD (pdOf pm) (l+1) s) (pm i).kd i (pm i).nk):=by
         exact J186
        have HI:Hid _:=hi
        clear hi
        obtain ⟨b',off',hpa,hcc⟩:=(PartsAt.onw HG.out.onw HT.out).1 Zo
        cases hpa
        have p9:=(hcc i hil).c9
        clear hcc
        have hI:=(HT.out.2 i hil).2
        have hkn:=(HS.out i hil).1
        have zb':=clt p9
        have x0:=Blk.at_ HG.out.t0 0 rfl
        obtain ⟨KA,hKA⟩:∃KA,(pm i).ka=KA:=⟨_,rfl⟩
        rw[hKA] at p9 hI
        clear hKA
        have ii:(i:Int) < (l:Int)+1:=Zo
        go_wp2_with fail
        clear p9 x0
        obtain ⟨wB,hwB⟩:∃x,x=wr:=⟨_,rfl⟩
        subst hwB
        go_loopw [95] (fun x wr2=>∃(j:Nat) (c:Array Value),j<=(pm i).nk/\x= .int .i64 j/\SzAt w wr2 (some ⟨b,off,none⟩) (l+1) pc gd c/\Blk wr2 (w.heap.size+1) 39 #[.int .i64 0,.int .i64 0]/\Arr c (l+1) (dep1 (depD (pdOf pm) (l+1) s) (pm i).kd i j)) (fun x _=>(pm i).nk-(intOf x).toNat)
        case atStart=>exact ⟨0,c,Nat.zero_le _,rfl,HG.out,HB2.out,HA.out⟩
        case round=>
         obtain ⟨j,c',hj,rfl,G,B2,A⟩:=hrel
         have HG3:Hid _:=G
         have HA3:Hid _:=A
         have HB3:Hid _:=B2
         clear G A B2
         by_cases hjt:j < (pm i).nk
         ·obtain ⟨kb,ko,hka,hcc⟩:=hI.onw HG3.out.onw Zo
          subst hka
          have k0:=hcc j hjt
          clear hcc
          obtain ⟨j0,j1⟩:=HK.out i hil j hjt
          obtain ⟨k,hk⟩:=Int.eq_ofNat_of_zero_le j0
          have HKD:Hid _:=hk
          rw[hk] at k0 j1
          clear hk j0
          have zk:=clt k0
          obtain ⟨v,hv⟩:∃v,dep1 (depD (pdOf pm) (l+1) s) (pm i).kd i j i=v:=⟨_,rfl⟩
          have hb:=dep1_le (depD_le (pd:=pdOf pm) (np:=l+1) (fun i hi j hj=>(HK.out i hi j hj).2) s hs) j (fun q hq=>(HK.out i hil q Zo).2) i
          rw[hv] at hb
          obtain ⟨hb0,hb1⟩:=hb
          have s0:wr.cell? ⟨gd,i,none⟩=some (.int .i64 v):=by
           rw[HG3.out.b1.cell,<-hv];exact HA3.out.2 i hil
          have HV2:Hid _:=hv
          clear hv
          have kl:(k:Int) < (l:Int)+1:=Zo
          have f1:=HG3.out.b1.free
          obtain ⟨v0,gx⟩:=HG3.out.b1.some (j:=k) (by rw[HA3.out.1];omega)
          go_wp2_with fail
          go_roundw
          case rel=>
           refine ⟨j+1,_,by omega,by go_num,HG3.out.set k _,Blk.kept (ksc _ gd k _) Zo HB3.out,Arr.set HA3.out k _ fun m _=>?_⟩
           exact J112
          case measure=>simp[intOf] <;> omega
         ·obtain rfl:j=(pm i).nk:=Zo
          go_wp2_with fail
          go_roundw
          case rel=>exact ⟨s+1,c',by omega,by have:=HI.out;go_num,HG3.out,HB3.out,by rw[hd.out];exact HA3.out⟩
          case measure=>simp[intOf] <;> omega
       ·obtain rfl:s=l+1:=Zo
        subst hx
        go_wp2_with fail
        have hh:Hid (specT (pdOf pm) (l+1)=after 4 (firstBad (fun i=>decide (depD (pdOf pm) (l+1) (l+1) i<=100)) 0 (l+1)) (0,0)):=by
         show _=_
         rw[fin.out,hE.out,hE3.out,HV.out,beq_iff_eq.mpr (show (l:Int)+1=((l+1:Nat):Int) from rfl)];rfl
        obtain ⟨wB,hwB⟩:∃x,x=wr:=⟨_,rfl⟩
        subst hwB
        go_loopw [110] (fun x wr2=>∃i:Nat,i<=l+1/\x= .int .i64 i/\Onw wB wr2/\firstBad (fun i=>decide (depD (pdOf pm) (l+1) (l+1) i<=100)) 0 (l+1)=firstBad (fun i=>decide (depD (pdOf pm) (l+1) (l+1) i<=100)) i (l+1-i)) (fun x _=>l+1-(intOf x).toNat)
        case atStart=>exact ⟨0,Nat.zero_le _,rfl,Onw.refl _,rfl⟩
        case round=>
         obtain ⟨i,hi,rfl,o4,hf⟩:=hrel
         have HB:Hid _:=hf
         clear hf
         have B2:=Blk.onw o4 HB2.out
         have ob4:=HG.out.onw.trans o4
         have f2:=B2.free
         have y0:=Blk.at_ B2 0 rfl
         have y1:=Blk.at_ B2 1 rfl
         by_cases hlt:i < l+1
         ·obtain ⟨v,hv⟩:∃v,depD (pdOf pm) (l+1) (l+1) i=v:=⟨_,rfl⟩
          have s0:wr.cell? ⟨gd,i,none⟩=some (.int .i64 v):=by
           rw[(Blk.onw o4 HG.out.b1).cell,<-hv];exact HA.out.2 i hlt
          have zs:=clt s0
          have HV2:Hid _:=hv
          clear hv
          by_cases e:v<=100
          ·go_wp2_with fail
           go_roundw
           case rel=>exact ⟨i+1,by omega,by go_num,o4,by rw[HB.out,firstBad_ok (f:=(fun i=>decide (depD (pdOf pm) (l+1) (l+1) i<=100))) hlt (by rw[HV2.out];exact decide_eq_true (by omega))]⟩
           case measure=>simp[intOf] <;> omega
          ·go_wp2_with fail
           exact bodyPost_ret (v:= .agg #[.int .i64 4,.int .i64 i]) J279 rfl ⟨ret_wrong (by rw[hh.out,HB.out,firstBad_bad (f:=(fun i=>decide (depD (pdOf pm) (l+1) (l+1) i<=100))) hlt (by rw[HV2.out];exact decide_eq_false (by omega))];rfl),bset (bset ob4 Zo _) Zo _⟩
         ·obtain rfl:i=l+1:=Zo
          go_wp2_with fail
          exact bodyPost_ret (v:= .agg #[.int .i64 0,.int .i64 0]) J279 rfl ⟨ret_wrong (by rw[hh.out,HB.out,firstBad_end hlt];rfl),by first|exact bset (bset ob4 Zo _) Zo _|exact ob4⟩
     ·go_wp2_with fail
      exact bodyPost_ret (v:= .agg #[.int .i64 3,.int .i64 l]) J279 rfl ⟨ret_wrong (by rw[fin.out,hE.out,hE3.out,HV.out,beq_false_of_ne (show sv≠((l+1:Nat):Int) by omega),show (l:Int)=((l+1:Nat):Int)-1 by omega];rfl),bset (bset ob Zo _) Zo _⟩
end Go.Proofs.YtlibofjbhhdjdaaGreat
