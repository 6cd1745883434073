import Derived.Test.YtlibofjbhhdjdaaGreatQ
import Derived.Test.YtlibofjbhhdjdaaGreatP21
set_option linter.unusedSimpArgs false
set_option maxRecDepth 100000
set_option maxHeartbeats 16000000
namespace Go.Proofs.YtlibofjbhhdjdaaGreat
open Go.RowKit
attribute [local go_sem] rsf
variable (w : World) (np : Nat) (pm : Nat -> PM) (pa : Option Addr) (pc : Nat) (F G L O N : Int) (X : Nat) (S : ByteArray) (nn : Nat) (nm : Nat -> ByteArray) (nk : Nat) (kd : Nat -> Int) (na : Option Addr) (nc : Nat) (ka : Option Addr) (kc : Nat)
theorem st15_no (hne:nk≠1)(H:Prm w np pm pa pc ⟨⟨15,F,G,L,O,N,X,S,nn,nm,nk,kd⟩,na,nc,ka,kc⟩):
  Calls Tryz.prog 38 #[.agg #[.slice pa np pc],.agg #[.int .i64 15,.int .i64 F,.int .i64 G,.int .i64 L,.int .i64 O,.int .i64 N,.float .f64 X,.string S,.slice na nn nc,.slice ka nk kc]] w fun e w'=>e= .returned (.bool false)/\Onw w w':=by
 obtain ⟨hn,hk,hnn,htx,hr,hz,ht,hm⟩:=H
 dsimp only at hk hnn htx hr hz
 have T:=Two.new w pa np pc 15 F G L O N X S na nn nc ka nk kc
 have ob:=Two.start w pa np pc 15 F G L O N X S na nn nc ka nk kc
 go_enter Tryz.func38,Tryz.ntmps38
 go_wp2_with fail
 refine (l6bare_any ⟨⟨15,F,G,L,O,N,X,S,nn,nm,nk,kd⟩,na,nc,ka,kc⟩ _ false false false false Zb).mono ?_
 rintro e w1 ⟨rfl,O1⟩
 replace T:=T.onw O1
 replace ob:=ob.trans O1
 clear O1
 obtain ⟨q0,hq0⟩:∃q,bareP (⟨15,F,G,L,O,N,X,S,nn,nm,nk,kd⟩:PD) false false false false=q:=⟨_,rfl⟩
 exact J73
theorem st9_3 (H:Prm w np pm pa pc ⟨⟨9,F,G,L,O,N,X,S,nn,nm,3,kd⟩,na,nc,ka,kc⟩):
  Calls Tryz.prog 38 #[.agg #[.slice pa np pc],.agg #[.int .i64 9,.int .i64 F,.int .i64 G,.int .i64 L,.int .i64 O,.int .i64 N,.float .f64 X,.string S,.slice na nn nc,.slice ka 3 kc]] w fun e w'=>e= .returned (.bool (((bareP (⟨9,F,G,L,O,N,X,S,nn,nm,3,kd⟩:PD) false false false true)&&((namedP (⟨9,F,G,L,O,N,X,S,nn,nm,3,kd⟩:PD) 1 1)&&((exprsP (pdOf pm) (⟨9,F,G,L,O,N,X,S,nn,nm,3,kd⟩:PD) 0 2)&&(kidP (pdOf pm) (⟨9,F,G,L,O,N,X,S,nn,nm,3,kd⟩:PD) 2==1))))))/\Onw w w':=by
 obtain ⟨hn,hk,hnn,htx,hr,hz,ht,hm⟩:=H
 dsimp only at hk hnn htx hr hz
 have T:=Two.new w pa np pc 9 F G L O N X S na nn nc ka 3 kc
 have ob:=Two.start w pa np pc 9 F G L O N X S na nn nc ka 3 kc
 go_enter Tryz.func38,Tryz.ntmps38
 go_wp2_with fail
 refine (l6bare_any ⟨⟨9,F,G,L,O,N,X,S,nn,nm,3,kd⟩,na,nc,ka,kc⟩ _ false false false true Zb).mono ?_
 rintro e w1 ⟨rfl,O1⟩
 replace T:=T.onw O1
 replace ob:=ob.trans O1
 clear O1
 obtain ⟨q0,hq0⟩:∃q,bareP (⟨9,F,G,L,O,N,X,S,nn,nm,3,kd⟩:PD) false false false true=q:=⟨_,rfl⟩
 rw[hq0]
 have x0:Hid _:=hq0
 clear hq0
 cases q0
 ·
  exact J10
 ·
  have ⟨t0,c0,c1,c2,c3,c4,c5,c6,c7,c8,c9⟩:=T
  go_wp2_with fail
  clear t0 c0 c1 c2 c3 c4 c5 c6 c7 c8 c9
  refine (l6named_any ⟨⟨9,F,G,L,O,N,X,S,nn,nm,3,kd⟩,na,nc,ka,kc⟩ 1 1 _ hnn hz (hm.1.onw ob)).mono ?_
  rintro e w1 ⟨rfl,O1⟩
  replace T:=T.onw O1
  replace ob:=ob.trans O1
  clear O1
  obtain ⟨q1,hq1⟩:∃q,namedP (⟨9,F,G,L,O,N,X,S,nn,nm,3,kd⟩:PD) 1 1=q:=⟨_,rfl⟩
  rw[hq1]
  have x1:Hid _:=hq1
  clear hq1
  cases q1
  ·
   exact J46
  ·
   have ⟨t0,c0,c1,c2,c3,c4,c5,c6,c7,c8,c9⟩:=T
   go_wp2_with fail
   clear t0 c0 c1 c2 c3 c4 c5 c6 c7 c8 c9
   refine (l6exprs_any ⟨np,pm,pa,pc⟩ ⟨⟨9,F,G,L,O,N,X,S,nn,nm,3,kd⟩,na,nc,ka,kc⟩ 0 2 _ hn Zo Zh hk hr (TM.At.onw ob ht) (hm.2.onw ob)).mono ?_
   rintro e w1 ⟨rfl,O1⟩
   replace T:=T.onw O1
   replace ob:=ob.trans O1
   clear O1
   obtain ⟨q2,hq2⟩:∃q,exprsP (pdOf pm) (⟨9,F,G,L,O,N,X,S,nn,nm,3,kd⟩:PD) 0 2=q:=⟨_,rfl⟩
   rw[hq2]
   have x2:Hid _:=hq2
   clear hq2
   cases q2
   ·
    exact J58
   ·
    have ⟨t0,c0,c1,c2,c3,c4,c5,c6,c7,c8,c9⟩:=T
    go_wp2_with fail
    clear t0 c0 c1 c2 c3 c4 c5 c6 c7 c8 c9
    refine (l6kid_any ⟨np,pm,pa,pc⟩ ⟨⟨9,F,G,L,O,N,X,S,nn,nm,3,kd⟩,na,nc,ka,kc⟩ 2 _ hn Zh hk (hr 2 Zo).1 (hr 2 Zo).2 (TM.At.onw ob ht) (hm.2.onw ob)).mono ?_
    rintro e w1 ⟨rfl,O1⟩
    replace T:=T.onw O1
    replace ob:=ob.trans O1
    clear O1
    obtain ⟨q3,hq3⟩:∃q,kidP (pdOf pm) (⟨9,F,G,L,O,N,X,S,nn,nm,3,kd⟩:PD) 2=q:=⟨_,rfl⟩
    rw[hq3]
    by_cases y3:q3=1
    ·have x3:Hid ((kidP (pdOf pm) (⟨9,F,G,L,O,N,X,S,nn,nm,3,kd⟩:PD) 2==1)=true):=J315
     subst y3;clear hq3
     exact J68
    ·have x3:Hid ((kidP (pdOf pm) (⟨9,F,G,L,O,N,X,S,nn,nm,3,kd⟩:PD) 2==1)=false):=J293
     clear hq3
     exact J83
theorem st9_4 (H:Prm w np pm pa pc ⟨⟨9,F,G,L,O,N,X,S,nn,nm,4,kd⟩,na,nc,ka,kc⟩):
  Calls Tryz.prog 38 #[.agg #[.slice pa np pc],.agg #[.int .i64 9,.int .i64 F,.int .i64 G,.int .i64 L,.int .i64 O,.int .i64 N,.float .f64 X,.string S,.slice na nn nc,.slice ka 4 kc]] w fun e w'=>e= .returned (.bool (((bareP (⟨9,F,G,L,O,N,X,S,nn,nm,4,kd⟩:PD) false false false true)&&((namedP (⟨9,F,G,L,O,N,X,S,nn,nm,4,kd⟩:PD) 1 1)&&((exprsP (pdOf pm) (⟨9,F,G,L,O,N,X,S,nn,nm,4,kd⟩:PD) 0 3)&&(kidP (pdOf pm) (⟨9,F,G,L,O,N,X,S,nn,nm,4,kd⟩:PD) 3==1))))))/\Onw w w':=by
 obtain ⟨hn,hk,hnn,htx,hr,hz,ht,hm⟩:=H
 dsimp only at hk hnn htx hr hz
 have T:=Two.new w pa np pc 9 F G L O N X S na nn nc ka 4 kc
 have ob:=Two.start w pa np pc 9 F G L O N X S na nn nc ka 4 kc
 go_enter Tryz.func38,Tryz.ntmps38
 go_wp2_with fail
 refine (l6bare_any ⟨⟨9,F,G,L,O,N,X,S,nn,nm,4,kd⟩,na,nc,ka,kc⟩ _ false false false true Zb).mono ?_
 rintro e w1 ⟨rfl,O1⟩
 replace T:=T.onw O1
 replace ob:=ob.trans O1
 clear O1
 obtain ⟨q0,hq0⟩:∃q,bareP (⟨9,F,G,L,O,N,X,S,nn,nm,4,kd⟩:PD) false false false true=q:=⟨_,rfl⟩
 rw[hq0]
 have x0:Hid _:=hq0
 clear hq0
 cases q0
 ·
  exact J10
 ·
  have ⟨t0,c0,c1,c2,c3,c4,c5,c6,c7,c8,c9⟩:=T
  go_wp2_with fail
  clear t0 c0 c1 c2 c3 c4 c5 c6 c7 c8 c9
  refine (l6named_any ⟨⟨9,F,G,L,O,N,X,S,nn,nm,4,kd⟩,na,nc,ka,kc⟩ 1 1 _ hnn hz (hm.1.onw ob)).mono ?_
  rintro e w1 ⟨rfl,O1⟩
  replace T:=T.onw O1
  replace ob:=ob.trans O1
  clear O1
  obtain ⟨q1,hq1⟩:∃q,namedP (⟨9,F,G,L,O,N,X,S,nn,nm,4,kd⟩:PD) 1 1=q:=⟨_,rfl⟩
  rw[hq1]
  have x1:Hid _:=hq1
  clear hq1
  cases q1
  ·
   exact J46
  ·
   have ⟨t0,c0,c1,c2,c3,c4,c5,c6,c7,c8,c9⟩:=T
   go_wp2_with fail
   clear t0 c0 c1 c2 c3 c4 c5 c6 c7 c8 c9
   refine (l6exprs_any ⟨np,pm,pa,pc⟩ ⟨⟨9,F,G,L,O,N,X,S,nn,nm,4,kd⟩,na,nc,ka,kc⟩ 0 3 _ hn Zo Zh hk hr (TM.At.onw ob ht) (hm.2.onw ob)).mono ?_
   rintro e w1 ⟨rfl,O1⟩
   replace T:=T.onw O1
   replace ob:=ob.trans O1
   clear O1
   obtain ⟨q2,hq2⟩:∃q,exprsP (pdOf pm) (⟨9,F,G,L,O,N,X,S,nn,nm,4,kd⟩:PD) 0 3=q:=⟨_,rfl⟩
   rw[hq2]
   have x2:Hid _:=hq2
   clear hq2
   cases q2
   ·
    exact J58
   ·
    have ⟨t0,c0,c1,c2,c3,c4,c5,c6,c7,c8,c9⟩:=T
    go_wp2_with fail
    clear t0 c0 c1 c2 c3 c4 c5 c6 c7 c8 c9
    refine (l6kid_any ⟨np,pm,pa,pc⟩ ⟨⟨9,F,G,L,O,N,X,S,nn,nm,4,kd⟩,na,nc,ka,kc⟩ 3 _ hn Zh hk (hr 3 Zo).1 (hr 3 Zo).2 (TM.At.onw ob ht) (hm.2.onw ob)).mono ?_
    rintro e w1 ⟨rfl,O1⟩
    replace T:=T.onw O1
    replace ob:=ob.trans O1
    clear O1
    obtain ⟨q3,hq3⟩:∃q,kidP (pdOf pm) (⟨9,F,G,L,O,N,X,S,nn,nm,4,kd⟩:PD) 3=q:=⟨_,rfl⟩
    rw[hq3]
    by_cases y3:q3=1
    ·have x3:Hid ((kidP (pdOf pm) (⟨9,F,G,L,O,N,X,S,nn,nm,4,kd⟩:PD) 3==1)=true):=J315
     subst y3;clear hq3
     exact J68
    ·have x3:Hid ((kidP (pdOf pm) (⟨9,F,G,L,O,N,X,S,nn,nm,4,kd⟩:PD) 3==1)=false):=J293
     clear hq3
     exact J83
theorem st9_no (hne:nk≠3)(hne':nk≠4)(H:Prm w np pm pa pc ⟨⟨9,F,G,L,O,N,X,S,nn,nm,nk,kd⟩,na,nc,ka,kc⟩):
  Calls Tryz.prog 38 #[.agg #[.slice pa np pc],.agg #[.int .i64 9,.int .i64 F,.int .i64 G,.int .i64 L,.int .i64 O,.int .i64 N,.float .f64 X,.string S,.slice na nn nc,.slice ka nk kc]] w fun e w'=>e= .returned (.bool false)/\Onw w w':=by
 obtain ⟨hn,hk,hnn,htx,hr,hz,ht,hm⟩:=H
 dsimp only at hk hnn htx hr hz
 have T:=Two.new w pa np pc 9 F G L O N X S na nn nc ka nk kc
 have ob:=Two.start w pa np pc 9 F G L O N X S na nn nc ka nk kc
 go_enter Tryz.func38,Tryz.ntmps38
 go_wp2_with fail
 refine (l6bare_any ⟨⟨9,F,G,L,O,N,X,S,nn,nm,nk,kd⟩,na,nc,ka,kc⟩ _ false false false true Zb).mono ?_
 rintro e w1 ⟨rfl,O1⟩
 replace T:=T.onw O1
 replace ob:=ob.trans O1
 clear O1
 obtain ⟨q0,hq0⟩:∃q,bareP (⟨9,F,G,L,O,N,X,S,nn,nm,nk,kd⟩:PD) false false false true=q:=⟨_,rfl⟩
 rw[hq0]
 have x0:Hid _:=hq0
 clear hq0
 cases q0
 ·
  exact J29
 ·
  have ⟨t0,c0,c1,c2,c3,c4,c5,c6,c7,c8,c9⟩:=T
  go_wp2_with fail
  clear t0 c0 c1 c2 c3 c4 c5 c6 c7 c8 c9
  refine (l6named_any ⟨⟨9,F,G,L,O,N,X,S,nn,nm,nk,kd⟩,na,nc,ka,kc⟩ 1 1 _ hnn hz (hm.1.onw ob)).mono ?_
  rintro e w1 ⟨rfl,O1⟩
  replace T:=T.onw O1
  replace ob:=ob.trans O1
  clear O1
  obtain ⟨q1,hq1⟩:∃q,namedP (⟨9,F,G,L,O,N,X,S,nn,nm,nk,kd⟩:PD) 1 1=q:=⟨_,rfl⟩
  exact J88
theorem st7_2 (H:Prm w np pm pa pc ⟨⟨7,F,G,L,O,N,X,S,nn,nm,2,kd⟩,na,nc,ka,kc⟩):
  Calls Tryz.prog 38 #[.agg #[.slice pa np pc],.agg #[.int .i64 7,.int .i64 F,.int .i64 G,.int .i64 L,.int .i64 O,.int .i64 N,.float .f64 X,.string S,.slice na nn nc,.slice ka 2 kc]] w fun e w'=>e= .returned (.bool (((bareP (⟨7,F,G,L,O,N,X,S,nn,nm,2,kd⟩:PD) false false false false)&&((exprsP (pdOf pm) (⟨7,F,G,L,O,N,X,S,nn,nm,2,kd⟩:PD) 0 1)&&(kidP (pdOf pm) (⟨7,F,G,L,O,N,X,S,nn,nm,2,kd⟩:PD) 1==1)))))/\Onw w w':=by
 obtain ⟨hn,hk,hnn,htx,hr,hz,ht,hm⟩:=H
 dsimp only at hk hnn htx hr hz
 have T:=Two.new w pa np pc 7 F G L O N X S na nn nc ka 2 kc
 have ob:=Two.start w pa np pc 7 F G L O N X S na nn nc ka 2 kc
 go_enter Tryz.func38,Tryz.ntmps38
 go_wp2_with fail
 refine (l6bare_any ⟨⟨7,F,G,L,O,N,X,S,nn,nm,2,kd⟩,na,nc,ka,kc⟩ _ false false false false Zb).mono ?_
 rintro e w1 ⟨rfl,O1⟩
 replace T:=T.onw O1
 replace ob:=ob.trans O1
 clear O1
 obtain ⟨q0,hq0⟩:∃q,bareP (⟨7,F,G,L,O,N,X,S,nn,nm,2,kd⟩:PD) false false false false=q:=⟨_,rfl⟩
 rw[hq0]
 have x0:Hid _:=hq0
 clear hq0
 cases q0
 ·
  exact J10
 ·
  have ⟨t0,c0,c1,c2,c3,c4,c5,c6,c7,c8,c9⟩:=T
  go_wp2_with fail
  clear t0 c0 c1 c2 c3 c4 c5 c6 c7 c8 c9
  refine (l6exprs_any ⟨np,pm,pa,pc⟩ ⟨⟨7,F,G,L,O,N,X,S,nn,nm,2,kd⟩,na,nc,ka,kc⟩ 0 1 _ hn Zo Zh hk hr (TM.At.onw ob ht) (hm.2.onw ob)).mono ?_
  rintro e w1 ⟨rfl,O1⟩
  replace T:=T.onw O1
  replace ob:=ob.trans O1
  clear O1
  obtain ⟨q1,hq1⟩:∃q,exprsP (pdOf pm) (⟨7,F,G,L,O,N,X,S,nn,nm,2,kd⟩:PD) 0 1=q:=⟨_,rfl⟩
  rw[hq1]
  have x1:Hid _:=hq1
  clear hq1
  cases q1
  ·
   exact J46
  ·
   have ⟨t0,c0,c1,c2,c3,c4,c5,c6,c7,c8,c9⟩:=T
   go_wp2_with fail
   clear t0 c0 c1 c2 c3 c4 c5 c6 c7 c8 c9
   refine (l6kid_any ⟨np,pm,pa,pc⟩ ⟨⟨7,F,G,L,O,N,X,S,nn,nm,2,kd⟩,na,nc,ka,kc⟩ 1 _ hn Zh hk (hr 1 Zo).1 (hr 1 Zo).2 (TM.At.onw ob ht) (hm.2.onw ob)).mono ?_
   rintro e w1 ⟨rfl,O1⟩
   replace T:=T.onw O1
   replace ob:=ob.trans O1
   clear O1
   obtain ⟨q2,hq2⟩:∃q,kidP (pdOf pm) (⟨7,F,G,L,O,N,X,S,nn,nm,2,kd⟩:PD) 1=q:=⟨_,rfl⟩
   rw[hq2]
   by_cases y2:q2=1
   ·have x2:Hid ((kidP (pdOf pm) (⟨7,F,G,L,O,N,X,S,nn,nm,2,kd⟩:PD) 1==1)=true):=J289
    exact J92
   ·have x2:Hid ((kidP (pdOf pm) (⟨7,F,G,L,O,N,X,S,nn,nm,2,kd⟩:PD) 1==1)=false):=J282
    clear hq2
    exact J58
theorem st7_3a (hq:kidP (pdOf pm) (⟨7,F,G,L,O,N,X,S,nn,nm,3,kd⟩:PD) 2=1)(H:Prm w np pm pa pc ⟨⟨7,F,G,L,O,N,X,S,nn,nm,3,kd⟩,na,nc,ka,kc⟩):
  Calls Tryz.prog 38 #[.agg #[.slice pa np pc],.agg #[.int .i64 7,.int .i64 F,.int .i64 G,.int .i64 L,.int .i64 O,.int .i64 N,.float .f64 X,.string S,.slice na nn nc,.slice ka 3 kc]] w fun e w'=>e= .returned (.bool (((bareP (⟨7,F,G,L,O,N,X,S,nn,nm,3,kd⟩:PD) false false false false)&&((exprsP (pdOf pm) (⟨7,F,G,L,O,N,X,S,nn,nm,3,kd⟩:PD) 0 1)&&(kidP (pdOf pm) (⟨7,F,G,L,O,N,X,S,nn,nm,3,kd⟩:PD) 1==1)))))/\Onw w w':=by
 obtain ⟨hn,hk,hnn,htx,hr,hz,ht,hm⟩:=H
 dsimp only at hk hnn htx hr hz
 have T:=Two.new w pa np pc 7 F G L O N X S na nn nc ka 3 kc
 have ob:=Two.start w pa np pc 7 F G L O N X S na nn nc ka 3 kc
 go_enter Tryz.func38,Tryz.ntmps38
 go_wp2_with fail
 refine (l6bare_any ⟨⟨7,F,G,L,O,N,X,S,nn,nm,3,kd⟩,na,nc,ka,kc⟩ _ false false false false Zb).mono ?_
 rintro e w1 ⟨rfl,O1⟩
 replace T:=T.onw O1
 replace ob:=ob.trans O1
 clear O1
 obtain ⟨q0,hq0⟩:∃q,bareP (⟨7,F,G,L,O,N,X,S,nn,nm,3,kd⟩:PD) false false false false=q:=⟨_,rfl⟩
 rw[hq0]
 have x0:Hid _:=hq0
 clear hq0
 cases q0
 ·
  exact J10
 ·
  have ⟨t0,c0,c1,c2,c3,c4,c5,c6,c7,c8,c9⟩:=T
  go_wp2_with fail
  clear t0 c0 c1 c2 c3 c4 c5 c6 c7 c8 c9
  refine (l6exprs_any ⟨np,pm,pa,pc⟩ ⟨⟨7,F,G,L,O,N,X,S,nn,nm,3,kd⟩,na,nc,ka,kc⟩ 0 1 _ hn Zo Zh hk hr (TM.At.onw ob ht) (hm.2.onw ob)).mono ?_
  rintro e w1 ⟨rfl,O1⟩
  replace T:=T.onw O1
  replace ob:=ob.trans O1
  clear O1
  obtain ⟨q1,hq1⟩:∃q,exprsP (pdOf pm) (⟨7,F,G,L,O,N,X,S,nn,nm,3,kd⟩:PD) 0 1=q:=⟨_,rfl⟩
  rw[hq1]
  have x1:Hid _:=hq1
  clear hq1
  cases q1
  ·
   exact J46
  ·
   have ⟨t0,c0,c1,c2,c3,c4,c5,c6,c7,c8,c9⟩:=T
   go_wp2_with fail
   clear t0 c0 c1 c2 c3 c4 c5 c6 c7 c8 c9
   refine (l6kid_any ⟨np,pm,pa,pc⟩ ⟨⟨7,F,G,L,O,N,X,S,nn,nm,3,kd⟩,na,nc,ka,kc⟩ 1 _ hn Zh hk (hr 1 Zo).1 (hr 1 Zo).2 (TM.At.onw ob ht) (hm.2.onw ob)).mono ?_
   rintro e w1 ⟨rfl,O1⟩
   replace T:=T.onw O1
   replace ob:=ob.trans O1
   clear O1
   obtain ⟨q2,hq2⟩:∃q,kidP (pdOf pm) (⟨7,F,G,L,O,N,X,S,nn,nm,3,kd⟩:PD) 1=q:=⟨_,rfl⟩
   rw[hq2]
   by_cases y2:q2=1
   ·have x2:Hid ((kidP (pdOf pm) (⟨7,F,G,L,O,N,X,S,nn,nm,3,kd⟩:PD) 1==1)=true):=J289
    subst y2;clear hq2
    exact J64
   ·exact J133
theorem st7_3b (hq:kidP (pdOf pm) (⟨7,F,G,L,O,N,X,S,nn,nm,3,kd⟩:PD) 2=7)(H:Prm w np pm pa pc ⟨⟨7,F,G,L,O,N,X,S,nn,nm,3,kd⟩,na,nc,ka,kc⟩):
  Calls Tryz.prog 38 #[.agg #[.slice pa np pc],.agg #[.int .i64 7,.int .i64 F,.int .i64 G,.int .i64 L,.int .i64 O,.int .i64 N,.float .f64 X,.string S,.slice na nn nc,.slice ka 3 kc]] w fun e w'=>e= .returned (.bool (((bareP (⟨7,F,G,L,O,N,X,S,nn,nm,3,kd⟩:PD) false false false false)&&((exprsP (pdOf pm) (⟨7,F,G,L,O,N,X,S,nn,nm,3,kd⟩:PD) 0 1)&&(kidP (pdOf pm) (⟨7,F,G,L,O,N,X,S,nn,nm,3,kd⟩:PD) 1==1)))))/\Onw w w':=by
 obtain ⟨hn,hk,hnn,htx,hr,hz,ht,hm⟩:=H
 dsimp only at hk hnn htx hr hz
 have T:=Two.new w pa np pc 7 F G L O N X S na nn nc ka 3 kc
 have ob:=Two.start w pa np pc 7 F G L O N X S na nn nc ka 3 kc
 go_enter Tryz.func38,Tryz.ntmps38
 go_wp2_with fail
 refine (l6bare_any ⟨⟨7,F,G,L,O,N,X,S,nn,nm,3,kd⟩,na,nc,ka,kc⟩ _ false false false false Zb).mono ?_
 rintro e w1 ⟨rfl,O1⟩
 replace T:=T.onw O1
 replace ob:=ob.trans O1
 clear O1
 obtain ⟨q0,hq0⟩:∃q,bareP (⟨7,F,G,L,O,N,X,S,nn,nm,3,kd⟩:PD) false false false false=q:=⟨_,rfl⟩
 rw[hq0]
 have x0:Hid _:=hq0
 clear hq0
 cases q0
 ·
  exact J10
 ·
  have ⟨t0,c0,c1,c2,c3,c4,c5,c6,c7,c8,c9⟩:=T
  go_wp2_with fail
  clear t0 c0 c1 c2 c3 c4 c5 c6 c7 c8 c9
  refine (l6exprs_any ⟨np,pm,pa,pc⟩ ⟨⟨7,F,G,L,O,N,X,S,nn,nm,3,kd⟩,na,nc,ka,kc⟩ 0 1 _ hn Zo Zh hk hr (TM.At.onw ob ht) (hm.2.onw ob)).mono ?_
  rintro e w1 ⟨rfl,O1⟩
  replace T:=T.onw O1
  replace ob:=ob.trans O1
  clear O1
  obtain ⟨q1,hq1⟩:∃q,exprsP (pdOf pm) (⟨7,F,G,L,O,N,X,S,nn,nm,3,kd⟩:PD) 0 1=q:=⟨_,rfl⟩
  rw[hq1]
  have x1:Hid _:=hq1
  clear hq1
  cases q1
  ·
   exact J46
  ·
   have ⟨t0,c0,c1,c2,c3,c4,c5,c6,c7,c8,c9⟩:=T
   go_wp2_with fail
   clear t0 c0 c1 c2 c3 c4 c5 c6 c7 c8 c9
   refine (l6kid_any ⟨np,pm,pa,pc⟩ ⟨⟨7,F,G,L,O,N,X,S,nn,nm,3,kd⟩,na,nc,ka,kc⟩ 1 _ hn Zh hk (hr 1 Zo).1 (hr 1 Zo).2 (TM.At.onw ob ht) (hm.2.onw ob)).mono ?_
   rintro e w1 ⟨rfl,O1⟩
   replace T:=T.onw O1
   replace ob:=ob.trans O1
   clear O1
   obtain ⟨q2,hq2⟩:∃q,kidP (pdOf pm) (⟨7,F,G,L,O,N,X,S,nn,nm,3,kd⟩:PD) 1=q:=⟨_,rfl⟩
   rw[hq2]
   by_cases y2:q2=1
   ·have x2:Hid ((kidP (pdOf pm) (⟨7,F,G,L,O,N,X,S,nn,nm,3,kd⟩:PD) 1==1)=true):=J289
    subst y2;clear hq2
    have ⟨t0,c0,c1,c2,c3,c4,c5,c6,c7,c8,c9⟩:=T
    go_wp2_with fail
    clear t0 c0 c1 c2 c3 c4 c5 c6 c7 c8 c9
    refine (l6kid_any ⟨np,pm,pa,pc⟩ ⟨⟨7,F,G,L,O,N,X,S,nn,nm,3,kd⟩,na,nc,ka,kc⟩ 2 _ hn Zh hk (hr 2 Zo).1 (hr 2 Zo).2 (TM.At.onw ob ht) (hm.2.onw ob)).mono ?_
    rintro e w1 ⟨rfl,O1⟩
    replace T:=T.onw O1
    replace ob:=ob.trans O1
    clear O1
    rw[hq]
    exact J64
   ·exact J133
theorem st7_3c (q:Int)(hq:kidP (pdOf pm) (⟨7,F,G,L,O,N,X,S,nn,nm,3,kd⟩:PD) 2=q)(q1:q≠1)(q7:q≠7)(H:Prm w np pm pa pc ⟨⟨7,F,G,L,O,N,X,S,nn,nm,3,kd⟩,na,nc,ka,kc⟩):
  Calls Tryz.prog 38 #[.agg #[.slice pa np pc],.agg #[.int .i64 7,.int .i64 F,.int .i64 G,.int .i64 L,.int .i64 O,.int .i64 N,.float .f64 X,.string S,.slice na nn nc,.slice ka 3 kc]] w fun e w'=>e= .returned (.bool false)/\Onw w w':=by
 obtain ⟨hn,hk,hnn,htx,hr,hz,ht,hm⟩:=H
 dsimp only at hk hnn htx hr hz
 have T:=Two.new w pa np pc 7 F G L O N X S na nn nc ka 3 kc
 have ob:=Two.start w pa np pc 7 F G L O N X S na nn nc ka 3 kc
 go_enter Tryz.func38,Tryz.ntmps38
 go_wp2_with fail
 refine (l6bare_any ⟨⟨7,F,G,L,O,N,X,S,nn,nm,3,kd⟩,na,nc,ka,kc⟩ _ false false false false Zb).mono ?_
 rintro e w1 ⟨rfl,O1⟩
 replace T:=T.onw O1
 replace ob:=ob.trans O1
 clear O1
 obtain ⟨q0,hq0⟩:∃q,bareP (⟨7,F,G,L,O,N,X,S,nn,nm,3,kd⟩:PD) false false false false=q:=⟨_,rfl⟩
 rw[hq0]
 have x0:Hid _:=hq0
 clear hq0
 cases q0
 ·
  exact J29
 ·
  have ⟨t0,c0,c1,c2,c3,c4,c5,c6,c7,c8,c9⟩:=T
  go_wp2_with fail
  clear t0 c0 c1 c2 c3 c4 c5 c6 c7 c8 c9
  refine (l6exprs_any ⟨np,pm,pa,pc⟩ ⟨⟨7,F,G,L,O,N,X,S,nn,nm,3,kd⟩,na,nc,ka,kc⟩ 0 1 _ hn Zo Zh hk hr (TM.At.onw ob ht) (hm.2.onw ob)).mono ?_
  rintro e w1 ⟨rfl,O1⟩
  replace T:=T.onw O1
  replace ob:=ob.trans O1
  clear O1
  obtain ⟨q1,hq1⟩:∃q,exprsP (pdOf pm) (⟨7,F,G,L,O,N,X,S,nn,nm,3,kd⟩:PD) 0 1=q:=⟨_,rfl⟩
  rw[hq1]
  have x1:Hid _:=hq1
  clear hq1
  cases q1
  ·
   exact J29
  ·
   have ⟨t0,c0,c1,c2,c3,c4,c5,c6,c7,c8,c9⟩:=T
   go_wp2_with fail
   clear t0 c0 c1 c2 c3 c4 c5 c6 c7 c8 c9
   refine (l6kid_any ⟨np,pm,pa,pc⟩ ⟨⟨7,F,G,L,O,N,X,S,nn,nm,3,kd⟩,na,nc,ka,kc⟩ 1 _ hn Zh hk (hr 1 Zo).1 (hr 1 Zo).2 (TM.At.onw ob ht) (hm.2.onw ob)).mono ?_
   rintro e w1 ⟨rfl,O1⟩
   replace T:=T.onw O1
   replace ob:=ob.trans O1
   clear O1
   obtain ⟨q2,hq2⟩:∃q,kidP (pdOf pm) (⟨7,F,G,L,O,N,X,S,nn,nm,3,kd⟩:PD) 1=q:=⟨_,rfl⟩
   rw[hq2]
   by_cases y2:q2=1
   ·have x2:Hid ((kidP (pdOf pm) (⟨7,F,G,L,O,N,X,S,nn,nm,3,kd⟩:PD) 1==1)=true):=J289
    subst y2;clear hq2
    have ⟨t0,c0,c1,c2,c3,c4,c5,c6,c7,c8,c9⟩:=T
    go_wp2_with fail
    clear t0 c0 c1 c2 c3 c4 c5 c6 c7 c8 c9
    refine (l6kid_any ⟨np,pm,pa,pc⟩ ⟨⟨7,F,G,L,O,N,X,S,nn,nm,3,kd⟩,na,nc,ka,kc⟩ 2 _ hn Zh hk (hr 2 Zo).1 (hr 2 Zo).2 (TM.At.onw ob ht) (hm.2.onw ob)).mono ?_
    rintro e w1 ⟨rfl,O1⟩
    replace T:=T.onw O1
    replace ob:=ob.trans O1
    clear O1
    rw[hq]
    have ⟨t0,c0,c1,c2,c3,c4,c5,c6,c7,c8,c9⟩:=T
    go_wp2_with fail
    clear t0 c0 c1 c2 c3 c4 c5 c6 c7 c8 c9
    refine (l6kid_any ⟨np,pm,pa,pc⟩ ⟨⟨7,F,G,L,O,N,X,S,nn,nm,3,kd⟩,na,nc,ka,kc⟩ 2 _ hn Zh hk (hr 2 Zo).1 (hr 2 Zo).2 (TM.At.onw ob ht) (hm.2.onw ob)).mono ?_
    exact J161
   ·have x2:Hid ((kidP (pdOf pm) (⟨7,F,G,L,O,N,X,S,nn,nm,3,kd⟩:PD) 1==1)=false):=J282
    clear hq2
    exact J29
theorem st7_lo (hlo:nk < 2)(H:Prm w np pm pa pc ⟨⟨7,F,G,L,O,N,X,S,nn,nm,nk,kd⟩,na,nc,ka,kc⟩):
  Calls Tryz.prog 38 #[.agg #[.slice pa np pc],.agg #[.int .i64 7,.int .i64 F,.int .i64 G,.int .i64 L,.int .i64 O,.int .i64 N,.float .f64 X,.string S,.slice na nn nc,.slice ka nk kc]] w fun e w'=>e= .returned (.bool false)/\Onw w w':=by
 exact J62
theorem st7_hi (hhi:3 < nk)(H:Prm w np pm pa pc ⟨⟨7,F,G,L,O,N,X,S,nn,nm,nk,kd⟩,na,nc,ka,kc⟩):
  Calls Tryz.prog 38 #[.agg #[.slice pa np pc],.agg #[.int .i64 7,.int .i64 F,.int .i64 G,.int .i64 L,.int .i64 O,.int .i64 N,.float .f64 X,.string S,.slice na nn nc,.slice ka nk kc]] w fun e w'=>e= .returned (.bool false)/\Onw w w':=by
 exact J62
theorem ex30_no (hne:nk≠1)(H:Prm w np pm pa pc ⟨⟨30,F,G,L,O,N,X,S,nn,nm,nk,kd⟩,na,nc,ka,kc⟩):
  Calls Tryz.prog 39 #[.agg #[.slice pa np pc],.agg #[.int .i64 30,.int .i64 F,.int .i64 G,.int .i64 L,.int .i64 O,.int .i64 N,.float .f64 X,.string S,.slice na nn nc,.slice ka nk kc]] w fun e w'=>e= .returned (.bool false)/\Onw w w':=by
 obtain ⟨hn,hk,hnn,htx,hr,hz,ht,hm⟩:=H
 dsimp only at hk hnn htx hr hz
 have T:=Two.new w pa np pc 30 F G L O N X S na nn nc ka nk kc
 have ob:=Two.start w pa np pc 30 F G L O N X S na nn nc ka nk kc
 exact J55
theorem ex30_lo (h1:O < 19)(H:Prm w np pm pa pc ⟨⟨30,F,G,L,O,N,X,S,nn,nm,1,kd⟩,na,nc,ka,kc⟩):
  Calls Tryz.prog 39 #[.agg #[.slice pa np pc],.agg #[.int .i64 30,.int .i64 F,.int .i64 G,.int .i64 L,.int .i64 O,.int .i64 N,.float .f64 X,.string S,.slice na nn nc,.slice ka 1 kc]] w fun e w'=>e= .returned (.bool false)/\Onw w w':=by
 exact J48
theorem ex30_hi (h1:19<=O)(h2:22 < O)(H:Prm w np pm pa pc ⟨⟨30,F,G,L,O,N,X,S,nn,nm,1,kd⟩,na,nc,ka,kc⟩):
  Calls Tryz.prog 39 #[.agg #[.slice pa np pc],.agg #[.int .i64 30,.int .i64 F,.int .i64 G,.int .i64 L,.int .i64 O,.int .i64 N,.float .f64 X,.string S,.slice na nn nc,.slice ka 1 kc]] w fun e w'=>e= .returned (.bool false)/\Onw w w':=by
 exact J48
theorem ex31_2 (h1:1<=O)(h2:O<=18)(H:Prm w np pm pa pc ⟨⟨31,F,G,L,O,N,X,S,nn,nm,2,kd⟩,na,nc,ka,kc⟩):
  Calls Tryz.prog 39 #[.agg #[.slice pa np pc],.agg #[.int .i64 31,.int .i64 F,.int .i64 G,.int .i64 L,.int .i64 O,.int .i64 N,.float .f64 X,.string S,.slice na nn nc,.slice ka 2 kc]] w fun e w'=>e= .returned (.bool (((exprsP (pdOf pm) (⟨31,F,G,L,O,N,X,S,nn,nm,2,kd⟩:PD) 0 2)&&bareP (⟨31,F,G,L,O,N,X,S,nn,nm,2,kd⟩:PD) true false false false)))/\Onw w w':=by
 obtain ⟨hn,hk,hnn,htx,hr,hz,ht,hm⟩:=H
 dsimp only at hk hnn htx hr hz
 have T:=Two.new w pa np pc 31 F G L O N X S na nn nc ka 2 kc
 have ob:=Two.start w pa np pc 31 F G L O N X S na nn nc ka 2 kc
 go_enter Tryz.func39,Tryz.ntmps39
 go_wp2_with fail
 refine (l6exprs_any ⟨np,pm,pa,pc⟩ ⟨⟨31,F,G,L,O,N,X,S,nn,nm,2,kd⟩,na,nc,ka,kc⟩ 0 2 _ hn Zo Zh hk hr (TM.At.onw ob ht) (hm.2.onw ob)).mono ?_
 rintro e w1 ⟨rfl,O1⟩
 replace T:=T.onw O1
 replace ob:=ob.trans O1
 clear O1
 obtain ⟨q0,hq0⟩:∃q,exprsP (pdOf pm) (⟨31,F,G,L,O,N,X,S,nn,nm,2,kd⟩:PD) 0 2=q:=⟨_,rfl⟩
 rw[hq0]
 have x0:Hid _:=hq0
 clear hq0
 cases q0
 ·
  exact J10
 ·
  have ⟨t0,c0,c1,c2,c3,c4,c5,c6,c7,c8,c9⟩:=T
  go_wp2_with fail
  clear t0 c0 c1 c2 c3 c4 c5 c6 c7 c8 c9
  refine (l6bare_any ⟨⟨31,F,G,L,O,N,X,S,nn,nm,2,kd⟩,na,nc,ka,kc⟩ _ true false false false Zb).mono ?_
  rintro e w1 ⟨rfl,O1⟩
  replace T:=T.onw O1
  replace ob:=ob.trans O1
  clear O1
  obtain ⟨q1,hq1⟩:∃q,bareP (⟨31,F,G,L,O,N,X,S,nn,nm,2,kd⟩:PD) true false false false=q:=⟨_,rfl⟩
  exact J35
theorem ex31_no (hne:nk≠2)(H:Prm w np pm pa pc ⟨⟨31,F,G,L,O,N,X,S,nn,nm,nk,kd⟩,na,nc,ka,kc⟩):
  Calls Tryz.prog 39 #[.agg #[.slice pa np pc],.agg #[.int .i64 31,.int .i64 F,.int .i64 G,.int .i64 L,.int .i64 O,.int .i64 N,.float .f64 X,.string S,.slice na nn nc,.slice ka nk kc]] w fun e w'=>e= .returned (.bool false)/\Onw w w':=by
 obtain ⟨hn,hk,hnn,htx,hr,hz,ht,hm⟩:=H
 dsimp only at hk hnn htx hr hz
 have T:=Two.new w pa np pc 31 F G L O N X S na nn nc ka nk kc
 have ob:=Two.start w pa np pc 31 F G L O N X S na nn nc ka nk kc
 exact J55
theorem ex31_lo (h1:O < 1)(H:Prm w np pm pa pc ⟨⟨31,F,G,L,O,N,X,S,nn,nm,2,kd⟩,na,nc,ka,kc⟩):
  Calls Tryz.prog 39 #[.agg #[.slice pa np pc],.agg #[.int .i64 31,.int .i64 F,.int .i64 G,.int .i64 L,.int .i64 O,.int .i64 N,.float .f64 X,.string S,.slice na nn nc,.slice ka 2 kc]] w fun e w'=>e= .returned (.bool false)/\Onw w w':=by
 exact J49
theorem ex31_hi (h1:1<=O)(h2:18 < O)(H:Prm w np pm pa pc ⟨⟨31,F,G,L,O,N,X,S,nn,nm,2,kd⟩,na,nc,ka,kc⟩):
  Calls Tryz.prog 39 #[.agg #[.slice pa np pc],.agg #[.int .i64 31,.int .i64 F,.int .i64 G,.int .i64 L,.int .i64 O,.int .i64 N,.float .f64 X,.string S,.slice na nn nc,.slice ka 2 kc]] w fun e w'=>e= .returned (.bool false)/\Onw w w':=by
 exact J49
theorem ex33_1 (H:Prm w np pm pa pc ⟨⟨33,F,G,L,O,N,X,S,nn,nm,1,kd⟩,na,nc,ka,kc⟩):
  Calls Tryz.prog 39 #[.agg #[.slice pa np pc],.agg #[.int .i64 33,.int .i64 F,.int .i64 G,.int .i64 L,.int .i64 O,.int .i64 N,.float .f64 X,.string S,.slice na nn nc,.slice ka 1 kc]] w fun e w'=>e= .returned (.bool (((exprsP (pdOf pm) (⟨33,F,G,L,O,N,X,S,nn,nm,1,kd⟩:PD) 0 1)&&((!(kidP (pdOf pm) (⟨33,F,G,L,O,N,X,S,nn,nm,1,kd⟩:PD) 0==27))&&((bareP (⟨33,F,G,L,O,N,X,S,nn,nm,1,kd⟩:PD) false false true false)&&nameB S)))))/\Onw w w':=by
 obtain ⟨hn,hk,hnn,htx,hr,hz,ht,hm⟩:=H
 dsimp only at hk hnn htx hr hz
 have T:=Two.new w pa np pc 33 F G L O N X S na nn nc ka 1 kc
 have ob:=Two.start w pa np pc 33 F G L O N X S na nn nc ka 1 kc
 go_enter Tryz.func39,Tryz.ntmps39
 go_wp2_with fail
 refine (l6exprs_any ⟨np,pm,pa,pc⟩ ⟨⟨33,F,G,L,O,N,X,S,nn,nm,1,kd⟩,na,nc,ka,kc⟩ 0 1 _ hn Zo Zh hk hr (TM.At.onw ob ht) (hm.2.onw ob)).mono ?_
 rintro e w1 ⟨rfl,O1⟩
 replace T:=T.onw O1
 replace ob:=ob.trans O1
 clear O1
 obtain ⟨q0,hq0⟩:∃q,exprsP (pdOf pm) (⟨33,F,G,L,O,N,X,S,nn,nm,1,kd⟩:PD) 0 1=q:=⟨_,rfl⟩
 rw[hq0]
 have x0:Hid _:=hq0
 clear hq0
 cases q0
 ·
  exact J10
 ·
  have ⟨t0,c0,c1,c2,c3,c4,c5,c6,c7,c8,c9⟩:=T
  go_wp2_with fail
  clear t0 c0 c1 c2 c3 c4 c5 c6 c7 c8 c9
  refine (l6kid_any ⟨np,pm,pa,pc⟩ ⟨⟨33,F,G,L,O,N,X,S,nn,nm,1,kd⟩,na,nc,ka,kc⟩ 0 _ hn Zh hk (hr 0 Zo).1 (hr 0 Zo).2 (TM.At.onw ob ht) (hm.2.onw ob)).mono ?_
  rintro e w1 ⟨rfl,O1⟩
  replace T:=T.onw O1
  replace ob:=ob.trans O1
  clear O1
  obtain ⟨q1,hq1⟩:∃q,kidP (pdOf pm) (⟨33,F,G,L,O,N,X,S,nn,nm,1,kd⟩:PD) 0=q:=⟨_,rfl⟩
  rw[hq1]
  by_cases y1:q1=27
  ·have x1:Hid ((kidP (pdOf pm) (⟨33,F,G,L,O,N,X,S,nn,nm,1,kd⟩:PD) 0==27)=true):=J301
   subst y1;clear hq1
   exact J46
  ·have x1:Hid ((kidP (pdOf pm) (⟨33,F,G,L,O,N,X,S,nn,nm,1,kd⟩:PD) 0==27)=false):=J283
   clear hq1
   have ⟨t0,c0,c1,c2,c3,c4,c5,c6,c7,c8,c9⟩:=T
   go_wp2_with fail
   clear t0 c0 c1 c2 c3 c4 c5 c6 c7 c8 c9
   refine (l6bare_any ⟨⟨33,F,G,L,O,N,X,S,nn,nm,1,kd⟩,na,nc,ka,kc⟩ _ false false true false Zb).mono ?_
   rintro e w1 ⟨rfl,O1⟩
   replace T:=T.onw O1
   replace ob:=ob.trans O1
   clear O1
   obtain ⟨q2,hq2⟩:∃q,bareP (⟨33,F,G,L,O,N,X,S,nn,nm,1,kd⟩:PD) false false true false=q:=⟨_,rfl⟩
   rw[hq2]
   have x2:Hid _:=hq2
   clear hq2
   cases q2
   ·
    exact J58
   ·
    have ⟨t0,c0,c1,c2,c3,c4,c5,c6,c7,c8,c9⟩:=T
    go_wp2_with fail
    clear t0 c0 c1 c2 c3 c4 c5 c6 c7 c8 c9
    refine (l6nameok_any S _ htx).mono ?_
    rintro e w1 ⟨rfl,O1⟩
    replace T:=T.onw O1
    replace ob:=ob.trans O1
    clear O1
    obtain ⟨q3,hq3⟩:∃q,nameB S=q:=⟨_,rfl⟩
    rw[hq3]
    have x3:Hid _:=hq3
    clear hq3
    cases q3
    ·
     exact J83
    ·
     exact J68
theorem ex33_no (hne:nk≠1)(H:Prm w np pm pa pc ⟨⟨33,F,G,L,O,N,X,S,nn,nm,nk,kd⟩,na,nc,ka,kc⟩):
  Calls Tryz.prog 39 #[.agg #[.slice pa np pc],.agg #[.int .i64 33,.int .i64 F,.int .i64 G,.int .i64 L,.int .i64 O,.int .i64 N,.float .f64 X,.string S,.slice na nn nc,.slice ka nk kc]] w fun e w'=>e= .returned (.bool false)/\Onw w w':=by
 obtain ⟨hn,hk,hnn,htx,hr,hz,ht,hm⟩:=H
 dsimp only at hk hnn htx hr hz
 have T:=Two.new w pa np pc 33 F G L O N X S na nn nc ka nk kc
 have ob:=Two.start w pa np pc 33 F G L O N X S na nn nc ka nk kc
 exact J55
theorem ex34_nk (hpos:0 < nk)(H:Prm w np pm pa pc ⟨⟨34,F,G,L,O,N,X,S,nn,nm,nk,kd⟩,na,nc,ka,kc⟩):
  Calls Tryz.prog 39 #[.agg #[.slice pa np pc],.agg #[.int .i64 34,.int .i64 F,.int .i64 G,.int .i64 L,.int .i64 O,.int .i64 N,.float .f64 X,.string S,.slice na nn nc,.slice ka nk kc]] w fun e w'=>e= .returned (.bool (((exprsP (pdOf pm) (⟨34,F,G,L,O,N,X,S,nn,nm,nk,kd⟩:PD) 0 nk)&&((!(kidP (pdOf pm) (⟨34,F,G,L,O,N,X,S,nn,nm,nk,kd⟩:PD) 0==27))&&bareP (⟨34,F,G,L,O,N,X,S,nn,nm,nk,kd⟩:PD) false false false false))))/\Onw w w':=by
 obtain ⟨hn,hk,hnn,htx,hr,hz,ht,hm⟩:=H
 dsimp only at hk hnn htx hr hz
 have T:=Two.new w pa np pc 34 F G L O N X S na nn nc ka nk kc
 have ob:=Two.start w pa np pc 34 F G L O N X S na nn nc ka nk kc
 go_enter Tryz.func39,Tryz.ntmps39
 go_wp2_with fail
 refine (l6exprs_any ⟨np,pm,pa,pc⟩ ⟨⟨34,F,G,L,O,N,X,S,nn,nm,nk,kd⟩,na,nc,ka,kc⟩ 0 nk _ hn Zo Zh hk hr (TM.At.onw ob ht) (hm.2.onw ob)).mono ?_
 rintro e w1 ⟨rfl,O1⟩
 replace T:=T.onw O1
 replace ob:=ob.trans O1
 clear O1
 obtain ⟨q0,hq0⟩:∃q,exprsP (pdOf pm) (⟨34,F,G,L,O,N,X,S,nn,nm,nk,kd⟩:PD) 0 nk=q:=⟨_,rfl⟩
 rw[hq0]
 have x0:Hid _:=hq0
 clear hq0
 cases q0
 ·
  exact J10
 ·
  have ⟨t0,c0,c1,c2,c3,c4,c5,c6,c7,c8,c9⟩:=T
  go_wp2_with fail
  clear t0 c0 c1 c2 c3 c4 c5 c6 c7 c8 c9
  refine (l6kid_any ⟨np,pm,pa,pc⟩ ⟨⟨34,F,G,L,O,N,X,S,nn,nm,nk,kd⟩,na,nc,ka,kc⟩ 0 _ hn Zh hk (hr 0 Zo).1 (hr 0 Zo).2 (TM.At.onw ob ht) (hm.2.onw ob)).mono ?_
  rintro e w1 ⟨rfl,O1⟩
  replace T:=T.onw O1
  replace ob:=ob.trans O1
  clear O1
  obtain ⟨q1,hq1⟩:∃q,kidP (pdOf pm) (⟨34,F,G,L,O,N,X,S,nn,nm,nk,kd⟩:PD) 0=q:=⟨_,rfl⟩
  rw[hq1]
  by_cases y1:q1=27
  ·have x1:Hid ((kidP (pdOf pm) (⟨34,F,G,L,O,N,X,S,nn,nm,nk,kd⟩:PD) 0==27)=true):=J301
   subst y1;clear hq1
   exact J46
  ·have x1:Hid ((kidP (pdOf pm) (⟨34,F,G,L,O,N,X,S,nn,nm,nk,kd⟩:PD) 0==27)=false):=J283
   clear hq1
   have ⟨t0,c0,c1,c2,c3,c4,c5,c6,c7,c8,c9⟩:=T
   go_wp2_with fail
   clear t0 c0 c1 c2 c3 c4 c5 c6 c7 c8 c9
   refine (l6bare_any ⟨⟨34,F,G,L,O,N,X,S,nn,nm,nk,kd⟩,na,nc,ka,kc⟩ _ false false false false Zb).mono ?_
   rintro e w1 ⟨rfl,O1⟩
   replace T:=T.onw O1
   replace ob:=ob.trans O1
   clear O1
   obtain ⟨q2,hq2⟩:∃q,bareP (⟨34,F,G,L,O,N,X,S,nn,nm,nk,kd⟩:PD) false false false false=q:=⟨_,rfl⟩
   exact J41
theorem ex34_0 (H:Prm w np pm pa pc ⟨⟨34,F,G,L,O,N,X,S,nn,nm,0,kd⟩,na,nc,ka,kc⟩):
  Calls Tryz.prog 39 #[.agg #[.slice pa np pc],.agg #[.int .i64 34,.int .i64 F,.int .i64 G,.int .i64 L,.int .i64 O,.int .i64 N,.float .f64 X,.string S,.slice na nn nc,.slice ka 0 kc]] w fun e w'=>e= .returned (.bool false)/\Onw w w':=by
 obtain ⟨hn,hk,hnn,htx,hr,hz,ht,hm⟩:=H
 dsimp only at hk hnn htx hr hz
 have T:=Two.new w pa np pc 34 F G L O N X S na nn nc ka 0 kc
 have ob:=Two.start w pa np pc 34 F G L O N X S na nn nc ka 0 kc
 exact J55
theorem ex36_a (H:Prm w np pm pa pc ⟨⟨36,F,G,L,0,N,X,S,nn,nm,1,kd⟩,na,nc,ka,kc⟩):
  Calls Tryz.prog 39 #[.agg #[.slice pa np pc],.agg #[.int .i64 36,.int .i64 F,.int .i64 G,.int .i64 L,.int .i64 0,.int .i64 N,.float .f64 X,.string S,.slice na nn nc,.slice ka 1 kc]] w fun e w'=>e= .returned (.bool (((kidP (pdOf pm) (⟨36,F,G,L,0,N,X,S,nn,nm,1,kd⟩:PD) 0==1)&&((bareP (⟨36,F,G,L,0,N,X,S,nn,nm,1,kd⟩:PD) true false false true)&&namedP (⟨36,F,G,L,0,N,X,S,nn,nm,1,kd⟩:PD) 0 200))))/\Onw w w':=by
 obtain ⟨hn,hk,hnn,htx,hr,hz,ht,hm⟩:=H
 dsimp only at hk hnn htx hr hz
 have T:=Two.new w pa np pc 36 F G L 0 N X S na nn nc ka 1 kc
 have ob:=Two.start w pa np pc 36 F G L 0 N X S na nn nc ka 1 kc
 go_enter Tryz.func39,Tryz.ntmps39
 go_wp2_with fail
 refine (l6kid_any ⟨np,pm,pa,pc⟩ ⟨⟨36,F,G,L,0,N,X,S,nn,nm,1,kd⟩,na,nc,ka,kc⟩ 0 _ hn Zh hk (hr 0 Zo).1 (hr 0 Zo).2 (TM.At.onw ob ht) (hm.2.onw ob)).mono ?_
 rintro e w1 ⟨rfl,O1⟩
 replace T:=T.onw O1
 replace ob:=ob.trans O1
 clear O1
 obtain ⟨q0,hq0⟩:∃q,kidP (pdOf pm) (⟨36,F,G,L,0,N,X,S,nn,nm,1,kd⟩:PD) 0=q:=⟨_,rfl⟩
 rw[hq0]
 by_cases y0:q0=1
 ·have x0:Hid ((kidP (pdOf pm) (⟨36,F,G,L,0,N,X,S,nn,nm,1,kd⟩:PD) 0==1)=true):=by show _=_;rw[hq0,y0];rfl
  subst y0;clear hq0
  have ⟨t0,c0,c1,c2,c3,c4,c5,c6,c7,c8,c9⟩:=T
  go_wp2_with fail
  clear t0 c0 c1 c2 c3 c4 c5 c6 c7 c8 c9
  refine (l6bare_any ⟨⟨36,F,G,L,0,N,X,S,nn,nm,1,kd⟩,na,nc,ka,kc⟩ _ true false false true Zb).mono ?_
  rintro e w1 ⟨rfl,O1⟩
  replace T:=T.onw O1
  replace ob:=ob.trans O1
  clear O1
  obtain ⟨q1,hq1⟩:∃q,bareP (⟨36,F,G,L,0,N,X,S,nn,nm,1,kd⟩:PD) true false false true=q:=⟨_,rfl⟩
  rw[hq1]
  have x1:Hid _:=hq1
  clear hq1
  cases q1
  ·
   exact J46
  ·
   have ⟨t0,c0,c1,c2,c3,c4,c5,c6,c7,c8,c9⟩:=T
   go_wp2_with fail
   clear t0 c0 c1 c2 c3 c4 c5 c6 c7 c8 c9
   refine (l6named_any ⟨⟨36,F,G,L,0,N,X,S,nn,nm,1,kd⟩,na,nc,ka,kc⟩ 0 200 _ hnn hz (hm.1.onw ob)).mono ?_
   rintro e w1 ⟨rfl,O1⟩
   replace T:=T.onw O1
   replace ob:=ob.trans O1
   clear O1
   obtain ⟨q2,hq2⟩:∃q,namedP (⟨36,F,G,L,0,N,X,S,nn,nm,1,kd⟩:PD) 0 200=q:=⟨_,rfl⟩
   exact J41
 ·have x0:Hid ((kidP (pdOf pm) (⟨36,F,G,L,0,N,X,S,nn,nm,1,kd⟩:PD) 0==1)=false):=J303
  clear hq0
  exact J10
end Go.Proofs.YtlibofjbhhdjdaaGreat
