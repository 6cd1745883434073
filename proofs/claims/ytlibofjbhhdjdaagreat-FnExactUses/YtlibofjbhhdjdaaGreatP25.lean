import Derived.Test.YtlibofjbhhdjdaaGreatQ
import Derived.Test.YtlibofjbhhdjdaaGreatP21
set_option linter.unusedSimpArgs false
set_option maxRecDepth 100000
set_option maxHeartbeats 16000000
namespace Go.Proofs.YtlibofjbhhdjdaaGreat
open Go.RowKit
attribute [local go_sem] rsf
variable (w : World) (np : Nat) (pm : Nat -> PM) (pa : Option Addr) (pc : Nat) (F G L O N : Int) (X : Nat) (S : ByteArray) (nn : Nat) (nm : Nat -> ByteArray) (nk : Nat) (kd : Nat -> Int) (na : Option Addr) (nc : Nat) (ka : Option Addr) (kc : Nat)
theorem st2_nk (H:Prm w np pm pa pc ⟨⟨2,F,G,L,O,N,X,S,nn,nm,nk,kd⟩,na,nc,ka,kc⟩):
  Calls Tryz.prog 38 #[.agg #[.slice pa np pc],.agg #[.int .i64 2,.int .i64 F,.int .i64 G,.int .i64 L,.int .i64 O,.int .i64 N,.float .f64 X,.string S,.slice na nn nc,.slice ka nk kc]] w fun e w'=>e= .returned (.bool (((bareP (⟨2,F,G,L,O,N,X,S,nn,nm,nk,kd⟩:PD) false false false true)&&((namedP (⟨2,F,G,L,O,N,X,S,nn,nm,nk,kd⟩:PD) 1 200)&&exprsP (pdOf pm) (⟨2,F,G,L,O,N,X,S,nn,nm,nk,kd⟩:PD) 0 nk))))/\Onw w w':=by
 obtain ⟨hn,hk,hnn,htx,hr,hz,ht,hm⟩:=H
 dsimp only at hk hnn htx hr hz
 have T:=Two.new w pa np pc 2 F G L O N X S na nn nc ka nk kc
 have ob:=Two.start w pa np pc 2 F G L O N X S na nn nc ka nk kc
 go_enter Tryz.func38,Tryz.ntmps38
 go_wp2_with fail
 refine (l6bare_any ⟨⟨2,F,G,L,O,N,X,S,nn,nm,nk,kd⟩,na,nc,ka,kc⟩ _ false false false true Zb).mono ?_
 rintro e w1 ⟨rfl,O1⟩
 replace T:=T.onw O1
 replace ob:=ob.trans O1
 clear O1
 obtain ⟨q0,hq0⟩:∃q,bareP (⟨2,F,G,L,O,N,X,S,nn,nm,nk,kd⟩:PD) false false false true=q:=⟨_,rfl⟩
 rw[hq0]
 have x0:Hid _:=hq0
 clear hq0
 cases q0
 ·
  exact J10
 ·
  have ⟨t0,c0,c1,c2,c3,c4,c5,c6,c7,c8,c9⟩:=T
  go_wp2_with fail
  clear t0 c0 c1 c2 c3 c4 c5 c6 c7 c8 c9
  refine (l6named_any ⟨⟨2,F,G,L,O,N,X,S,nn,nm,nk,kd⟩,na,nc,ka,kc⟩ 1 200 _ hnn hz (hm.1.onw ob)).mono ?_
  rintro e w1 ⟨rfl,O1⟩
  replace T:=T.onw O1
  replace ob:=ob.trans O1
  clear O1
  obtain ⟨q1,hq1⟩:∃q,namedP (⟨2,F,G,L,O,N,X,S,nn,nm,nk,kd⟩:PD) 1 200=q:=⟨_,rfl⟩
  rw[hq1]
  have x1:Hid _:=hq1
  clear hq1
  cases q1
  ·
   exact J46
  ·
   have ⟨t0,c0,c1,c2,c3,c4,c5,c6,c7,c8,c9⟩:=T
   go_wp2_with fail
   clear t0 c0 c1 c2 c3 c4 c5 c6 c7 c8 c9
   refine (l6exprs_any ⟨np,pm,pa,pc⟩ ⟨⟨2,F,G,L,O,N,X,S,nn,nm,nk,kd⟩,na,nc,ka,kc⟩ 0 nk _ hn Zo Zh hk hr (TM.At.onw ob ht) (hm.2.onw ob)).mono ?_
   rintro e w1 ⟨rfl,O1⟩
   replace T:=T.onw O1
   replace ob:=ob.trans O1
   clear O1
   obtain ⟨q2,hq2⟩:∃q,exprsP (pdOf pm) (⟨2,F,G,L,O,N,X,S,nn,nm,nk,kd⟩:PD) 0 nk=q:=⟨_,rfl⟩
   exact J41
theorem st3_1 (H:Prm w np pm pa pc ⟨⟨3,F,G,L,O,N,X,S,nn,nm,1,kd⟩,na,nc,ka,kc⟩):
  Calls Tryz.prog 38 #[.agg #[.slice pa np pc],.agg #[.int .i64 3,.int .i64 F,.int .i64 G,.int .i64 L,.int .i64 O,.int .i64 N,.float .f64 X,.string S,.slice na nn nc,.slice ka 1 kc]] w fun e w'=>e= .returned (.bool (((bareP (⟨3,F,G,L,O,N,X,S,nn,nm,1,kd⟩:PD) false false false true)&&((namedP (⟨3,F,G,L,O,N,X,S,nn,nm,1,kd⟩:PD) 1 1)&&exprsP (pdOf pm) (⟨3,F,G,L,O,N,X,S,nn,nm,1,kd⟩:PD) 0 1))))/\Onw w w':=by
 obtain ⟨hn,hk,hnn,htx,hr,hz,ht,hm⟩:=H
 dsimp only at hk hnn htx hr hz
 have T:=Two.new w pa np pc 3 F G L O N X S na nn nc ka 1 kc
 have ob:=Two.start w pa np pc 3 F G L O N X S na nn nc ka 1 kc
 go_enter Tryz.func38,Tryz.ntmps38
 go_wp2_with fail
 refine (l6bare_any ⟨⟨3,F,G,L,O,N,X,S,nn,nm,1,kd⟩,na,nc,ka,kc⟩ _ false false false true Zb).mono ?_
 rintro e w1 ⟨rfl,O1⟩
 replace T:=T.onw O1
 replace ob:=ob.trans O1
 clear O1
 obtain ⟨q0,hq0⟩:∃q,bareP (⟨3,F,G,L,O,N,X,S,nn,nm,1,kd⟩:PD) false false false true=q:=⟨_,rfl⟩
 rw[hq0]
 have x0:Hid _:=hq0
 clear hq0
 cases q0
 ·
  exact J10
 ·
  have ⟨t0,c0,c1,c2,c3,c4,c5,c6,c7,c8,c9⟩:=T
  go_wp2_with fail
  clear t0 c0 c1 c2 c3 c4 c5 c6 c7 c8 c9
  refine (l6named_any ⟨⟨3,F,G,L,O,N,X,S,nn,nm,1,kd⟩,na,nc,ka,kc⟩ 1 1 _ hnn hz (hm.1.onw ob)).mono ?_
  rintro e w1 ⟨rfl,O1⟩
  replace T:=T.onw O1
  replace ob:=ob.trans O1
  clear O1
  obtain ⟨q1,hq1⟩:∃q,namedP (⟨3,F,G,L,O,N,X,S,nn,nm,1,kd⟩:PD) 1 1=q:=⟨_,rfl⟩
  rw[hq1]
  have x1:Hid _:=hq1
  clear hq1
  cases q1
  ·
   exact J46
  ·
   have ⟨t0,c0,c1,c2,c3,c4,c5,c6,c7,c8,c9⟩:=T
   go_wp2_with fail
   clear t0 c0 c1 c2 c3 c4 c5 c6 c7 c8 c9
   refine (l6exprs_any ⟨np,pm,pa,pc⟩ ⟨⟨3,F,G,L,O,N,X,S,nn,nm,1,kd⟩,na,nc,ka,kc⟩ 0 1 _ hn Zo Zh hk hr (TM.At.onw ob ht) (hm.2.onw ob)).mono ?_
   rintro e w1 ⟨rfl,O1⟩
   replace T:=T.onw O1
   replace ob:=ob.trans O1
   clear O1
   obtain ⟨q2,hq2⟩:∃q,exprsP (pdOf pm) (⟨3,F,G,L,O,N,X,S,nn,nm,1,kd⟩:PD) 0 1=q:=⟨_,rfl⟩
   exact J41
theorem st3_no (hne:nk≠1)(H:Prm w np pm pa pc ⟨⟨3,F,G,L,O,N,X,S,nn,nm,nk,kd⟩,na,nc,ka,kc⟩):
  Calls Tryz.prog 38 #[.agg #[.slice pa np pc],.agg #[.int .i64 3,.int .i64 F,.int .i64 G,.int .i64 L,.int .i64 O,.int .i64 N,.float .f64 X,.string S,.slice na nn nc,.slice ka nk kc]] w fun e w'=>e= .returned (.bool false)/\Onw w w':=by
 obtain ⟨hn,hk,hnn,htx,hr,hz,ht,hm⟩:=H
 dsimp only at hk hnn htx hr hz
 have T:=Two.new w pa np pc 3 F G L O N X S na nn nc ka nk kc
 have ob:=Two.start w pa np pc 3 F G L O N X S na nn nc ka nk kc
 go_enter Tryz.func38,Tryz.ntmps38
 go_wp2_with fail
 refine (l6bare_any ⟨⟨3,F,G,L,O,N,X,S,nn,nm,nk,kd⟩,na,nc,ka,kc⟩ _ false false false true Zb).mono ?_
 rintro e w1 ⟨rfl,O1⟩
 replace T:=T.onw O1
 replace ob:=ob.trans O1
 clear O1
 obtain ⟨q0,hq0⟩:∃q,bareP (⟨3,F,G,L,O,N,X,S,nn,nm,nk,kd⟩:PD) false false false true=q:=⟨_,rfl⟩
 rw[hq0]
 have x0:Hid _:=hq0
 clear hq0
 cases q0
 ·
  exact J29
 ·
  have ⟨t0,c0,c1,c2,c3,c4,c5,c6,c7,c8,c9⟩:=T
  go_wp2_with fail
  clear t0 c0 c1 c2 c3 c4 c5 c6 c7 c8 c9
  refine (l6named_any ⟨⟨3,F,G,L,O,N,X,S,nn,nm,nk,kd⟩,na,nc,ka,kc⟩ 1 1 _ hnn hz (hm.1.onw ob)).mono ?_
  rintro e w1 ⟨rfl,O1⟩
  replace T:=T.onw O1
  replace ob:=ob.trans O1
  clear O1
  obtain ⟨q1,hq1⟩:∃q,namedP (⟨3,F,G,L,O,N,X,S,nn,nm,nk,kd⟩:PD) 1 1=q:=⟨_,rfl⟩
  exact J88
theorem st4_1 (H:Prm w np pm pa pc ⟨⟨4,F,G,L,O,N,X,S,nn,nm,1,kd⟩,na,nc,ka,kc⟩):
  Calls Tryz.prog 38 #[.agg #[.slice pa np pc],.agg #[.int .i64 4,.int .i64 F,.int .i64 G,.int .i64 L,.int .i64 O,.int .i64 N,.float .f64 X,.string S,.slice na nn nc,.slice ka 1 kc]] w fun e w'=>e= .returned (.bool (((bareP (⟨4,F,G,L,O,N,X,S,nn,nm,1,kd⟩:PD) false false false true)&&((namedP (⟨4,F,G,L,O,N,X,S,nn,nm,1,kd⟩:PD) 1 1)&&(kidP (pdOf pm) (⟨4,F,G,L,O,N,X,S,nn,nm,1,kd⟩:PD) 0==36)))))/\Onw w w':=by
 obtain ⟨hn,hk,hnn,htx,hr,hz,ht,hm⟩:=H
 dsimp only at hk hnn htx hr hz
 have T:=Two.new w pa np pc 4 F G L O N X S na nn nc ka 1 kc
 have ob:=Two.start w pa np pc 4 F G L O N X S na nn nc ka 1 kc
 go_enter Tryz.func38,Tryz.ntmps38
 go_wp2_with fail
 refine (l6bare_any ⟨⟨4,F,G,L,O,N,X,S,nn,nm,1,kd⟩,na,nc,ka,kc⟩ _ false false false true Zb).mono ?_
 rintro e w1 ⟨rfl,O1⟩
 replace T:=T.onw O1
 replace ob:=ob.trans O1
 clear O1
 obtain ⟨q0,hq0⟩:∃q,bareP (⟨4,F,G,L,O,N,X,S,nn,nm,1,kd⟩:PD) false false false true=q:=⟨_,rfl⟩
 rw[hq0]
 have x0:Hid _:=hq0
 clear hq0
 cases q0
 ·
  exact J10
 ·
  have ⟨t0,c0,c1,c2,c3,c4,c5,c6,c7,c8,c9⟩:=T
  go_wp2_with fail
  clear t0 c0 c1 c2 c3 c4 c5 c6 c7 c8 c9
  refine (l6named_any ⟨⟨4,F,G,L,O,N,X,S,nn,nm,1,kd⟩,na,nc,ka,kc⟩ 1 1 _ hnn hz (hm.1.onw ob)).mono ?_
  rintro e w1 ⟨rfl,O1⟩
  replace T:=T.onw O1
  replace ob:=ob.trans O1
  clear O1
  obtain ⟨q1,hq1⟩:∃q,namedP (⟨4,F,G,L,O,N,X,S,nn,nm,1,kd⟩:PD) 1 1=q:=⟨_,rfl⟩
  rw[hq1]
  have x1:Hid _:=hq1
  clear hq1
  cases q1
  ·
   exact J46
  ·
   have ⟨t0,c0,c1,c2,c3,c4,c5,c6,c7,c8,c9⟩:=T
   go_wp2_with fail
   clear t0 c0 c1 c2 c3 c4 c5 c6 c7 c8 c9
   refine (l6kid_any ⟨np,pm,pa,pc⟩ ⟨⟨4,F,G,L,O,N,X,S,nn,nm,1,kd⟩,na,nc,ka,kc⟩ 0 _ hn Zh hk (hr 0 Zo).1 (hr 0 Zo).2 (TM.At.onw ob ht) (hm.2.onw ob)).mono ?_
   rintro e w1 ⟨rfl,O1⟩
   replace T:=T.onw O1
   replace ob:=ob.trans O1
   clear O1
   obtain ⟨q2,hq2⟩:∃q,kidP (pdOf pm) (⟨4,F,G,L,O,N,X,S,nn,nm,1,kd⟩:PD) 0=q:=⟨_,rfl⟩
   rw[hq2]
   by_cases y2:q2=36
   ·have x2:Hid ((kidP (pdOf pm) (⟨4,F,G,L,O,N,X,S,nn,nm,1,kd⟩:PD) 0==36)=true):=J289
    exact J92
   ·have x2:Hid ((kidP (pdOf pm) (⟨4,F,G,L,O,N,X,S,nn,nm,1,kd⟩:PD) 0==36)=false):=J282
    clear hq2
    exact J58
theorem st4_no (hne:nk≠1)(H:Prm w np pm pa pc ⟨⟨4,F,G,L,O,N,X,S,nn,nm,nk,kd⟩,na,nc,ka,kc⟩):
  Calls Tryz.prog 38 #[.agg #[.slice pa np pc],.agg #[.int .i64 4,.int .i64 F,.int .i64 G,.int .i64 L,.int .i64 O,.int .i64 N,.float .f64 X,.string S,.slice na nn nc,.slice ka nk kc]] w fun e w'=>e= .returned (.bool false)/\Onw w w':=by
 obtain ⟨hn,hk,hnn,htx,hr,hz,ht,hm⟩:=H
 dsimp only at hk hnn htx hr hz
 have T:=Two.new w pa np pc 4 F G L O N X S na nn nc ka nk kc
 have ob:=Two.start w pa np pc 4 F G L O N X S na nn nc ka nk kc
 go_enter Tryz.func38,Tryz.ntmps38
 go_wp2_with fail
 refine (l6bare_any ⟨⟨4,F,G,L,O,N,X,S,nn,nm,nk,kd⟩,na,nc,ka,kc⟩ _ false false false true Zb).mono ?_
 rintro e w1 ⟨rfl,O1⟩
 replace T:=T.onw O1
 replace ob:=ob.trans O1
 clear O1
 obtain ⟨q0,hq0⟩:∃q,bareP (⟨4,F,G,L,O,N,X,S,nn,nm,nk,kd⟩:PD) false false false true=q:=⟨_,rfl⟩
 rw[hq0]
 have x0:Hid _:=hq0
 clear hq0
 cases q0
 ·
  exact J29
 ·
  have ⟨t0,c0,c1,c2,c3,c4,c5,c6,c7,c8,c9⟩:=T
  go_wp2_with fail
  clear t0 c0 c1 c2 c3 c4 c5 c6 c7 c8 c9
  refine (l6named_any ⟨⟨4,F,G,L,O,N,X,S,nn,nm,nk,kd⟩,na,nc,ka,kc⟩ 1 1 _ hnn hz (hm.1.onw ob)).mono ?_
  rintro e w1 ⟨rfl,O1⟩
  replace T:=T.onw O1
  replace ob:=ob.trans O1
  clear O1
  obtain ⟨q1,hq1⟩:∃q,namedP (⟨4,F,G,L,O,N,X,S,nn,nm,nk,kd⟩:PD) 1 1=q:=⟨_,rfl⟩
  exact J88
theorem st6_1 (H:Prm w np pm pa pc ⟨⟨6,F,G,L,O,N,X,S,nn,nm,1,kd⟩,na,nc,ka,kc⟩):
  Calls Tryz.prog 38 #[.agg #[.slice pa np pc],.agg #[.int .i64 6,.int .i64 F,.int .i64 G,.int .i64 L,.int .i64 O,.int .i64 N,.float .f64 X,.string S,.slice na nn nc,.slice ka 1 kc]] w fun e w'=>e= .returned (.bool (((bareP (⟨6,F,G,L,O,N,X,S,nn,nm,1,kd⟩:PD) false false false false)&&(kidP (pdOf pm) (⟨6,F,G,L,O,N,X,S,nn,nm,1,kd⟩:PD) 0==34))))/\Onw w w':=by
 obtain ⟨hn,hk,hnn,htx,hr,hz,ht,hm⟩:=H
 dsimp only at hk hnn htx hr hz
 have T:=Two.new w pa np pc 6 F G L O N X S na nn nc ka 1 kc
 have ob:=Two.start w pa np pc 6 F G L O N X S na nn nc ka 1 kc
 go_enter Tryz.func38,Tryz.ntmps38
 go_wp2_with fail
 refine (l6bare_any ⟨⟨6,F,G,L,O,N,X,S,nn,nm,1,kd⟩,na,nc,ka,kc⟩ _ false false false false Zb).mono ?_
 rintro e w1 ⟨rfl,O1⟩
 replace T:=T.onw O1
 replace ob:=ob.trans O1
 clear O1
 obtain ⟨q0,hq0⟩:∃q,bareP (⟨6,F,G,L,O,N,X,S,nn,nm,1,kd⟩:PD) false false false false=q:=⟨_,rfl⟩
 rw[hq0]
 have x0:Hid _:=hq0
 clear hq0
 cases q0
 ·
  exact J10
 ·
  have ⟨t0,c0,c1,c2,c3,c4,c5,c6,c7,c8,c9⟩:=T
  go_wp2_with fail
  clear t0 c0 c1 c2 c3 c4 c5 c6 c7 c8 c9
  refine (l6kid_any ⟨np,pm,pa,pc⟩ ⟨⟨6,F,G,L,O,N,X,S,nn,nm,1,kd⟩,na,nc,ka,kc⟩ 0 _ hn Zh hk (hr 0 Zo).1 (hr 0 Zo).2 (TM.At.onw ob ht) (hm.2.onw ob)).mono ?_
  rintro e w1 ⟨rfl,O1⟩
  replace T:=T.onw O1
  replace ob:=ob.trans O1
  clear O1
  obtain ⟨q1,hq1⟩:∃q,kidP (pdOf pm) (⟨6,F,G,L,O,N,X,S,nn,nm,1,kd⟩:PD) 0=q:=⟨_,rfl⟩
  rw[hq1]
  by_cases y1:q1=34
  ·have x1:Hid ((kidP (pdOf pm) (⟨6,F,G,L,O,N,X,S,nn,nm,1,kd⟩:PD) 0==34)=true):=J301
   exact J141
  ·have x1:Hid ((kidP (pdOf pm) (⟨6,F,G,L,O,N,X,S,nn,nm,1,kd⟩:PD) 0==34)=false):=J283
   clear hq1
   exact J46
theorem st6_no (hne:nk≠1)(H:Prm w np pm pa pc ⟨⟨6,F,G,L,O,N,X,S,nn,nm,nk,kd⟩,na,nc,ka,kc⟩):
  Calls Tryz.prog 38 #[.agg #[.slice pa np pc],.agg #[.int .i64 6,.int .i64 F,.int .i64 G,.int .i64 L,.int .i64 O,.int .i64 N,.float .f64 X,.string S,.slice na nn nc,.slice ka nk kc]] w fun e w'=>e= .returned (.bool false)/\Onw w w':=by
 obtain ⟨hn,hk,hnn,htx,hr,hz,ht,hm⟩:=H
 dsimp only at hk hnn htx hr hz
 have T:=Two.new w pa np pc 6 F G L O N X S na nn nc ka nk kc
 have ob:=Two.start w pa np pc 6 F G L O N X S na nn nc ka nk kc
 go_enter Tryz.func38,Tryz.ntmps38
 go_wp2_with fail
 refine (l6bare_any ⟨⟨6,F,G,L,O,N,X,S,nn,nm,nk,kd⟩,na,nc,ka,kc⟩ _ false false false false Zb).mono ?_
 rintro e w1 ⟨rfl,O1⟩
 replace T:=T.onw O1
 replace ob:=ob.trans O1
 clear O1
 obtain ⟨q0,hq0⟩:∃q,bareP (⟨6,F,G,L,O,N,X,S,nn,nm,nk,kd⟩:PD) false false false false=q:=⟨_,rfl⟩
 exact J73
theorem st16_1 (H:Prm w np pm pa pc ⟨⟨16,F,G,L,O,N,X,S,nn,nm,1,kd⟩,na,nc,ka,kc⟩):
  Calls Tryz.prog 38 #[.agg #[.slice pa np pc],.agg #[.int .i64 16,.int .i64 F,.int .i64 G,.int .i64 L,.int .i64 O,.int .i64 N,.float .f64 X,.string S,.slice na nn nc,.slice ka 1 kc]] w fun e w'=>e= .returned (.bool (((bareP (⟨16,F,G,L,O,N,X,S,nn,nm,1,kd⟩:PD) false false false false)&&(kidP (pdOf pm) (⟨16,F,G,L,O,N,X,S,nn,nm,1,kd⟩:PD) 0==34))))/\Onw w w':=by
 obtain ⟨hn,hk,hnn,htx,hr,hz,ht,hm⟩:=H
 dsimp only at hk hnn htx hr hz
 have T:=Two.new w pa np pc 16 F G L O N X S na nn nc ka 1 kc
 have ob:=Two.start w pa np pc 16 F G L O N X S na nn nc ka 1 kc
 go_enter Tryz.func38,Tryz.ntmps38
 go_wp2_with fail
 refine (l6bare_any ⟨⟨16,F,G,L,O,N,X,S,nn,nm,1,kd⟩,na,nc,ka,kc⟩ _ false false false false Zb).mono ?_
 rintro e w1 ⟨rfl,O1⟩
 replace T:=T.onw O1
 replace ob:=ob.trans O1
 clear O1
 obtain ⟨q0,hq0⟩:∃q,bareP (⟨16,F,G,L,O,N,X,S,nn,nm,1,kd⟩:PD) false false false false=q:=⟨_,rfl⟩
 rw[hq0]
 have x0:Hid _:=hq0
 clear hq0
 cases q0
 ·
  exact J10
 ·
  have ⟨t0,c0,c1,c2,c3,c4,c5,c6,c7,c8,c9⟩:=T
  go_wp2_with fail
  clear t0 c0 c1 c2 c3 c4 c5 c6 c7 c8 c9
  refine (l6kid_any ⟨np,pm,pa,pc⟩ ⟨⟨16,F,G,L,O,N,X,S,nn,nm,1,kd⟩,na,nc,ka,kc⟩ 0 _ hn Zh hk (hr 0 Zo).1 (hr 0 Zo).2 (TM.At.onw ob ht) (hm.2.onw ob)).mono ?_
  rintro e w1 ⟨rfl,O1⟩
  replace T:=T.onw O1
  replace ob:=ob.trans O1
  clear O1
  obtain ⟨q1,hq1⟩:∃q,kidP (pdOf pm) (⟨16,F,G,L,O,N,X,S,nn,nm,1,kd⟩:PD) 0=q:=⟨_,rfl⟩
  rw[hq1]
  by_cases y1:q1=34
  ·have x1:Hid ((kidP (pdOf pm) (⟨16,F,G,L,O,N,X,S,nn,nm,1,kd⟩:PD) 0==34)=true):=J301
   exact J141
  ·have x1:Hid ((kidP (pdOf pm) (⟨16,F,G,L,O,N,X,S,nn,nm,1,kd⟩:PD) 0==34)=false):=J283
   clear hq1
   exact J46
theorem st16_no (hne:nk≠1)(H:Prm w np pm pa pc ⟨⟨16,F,G,L,O,N,X,S,nn,nm,nk,kd⟩,na,nc,ka,kc⟩):
  Calls Tryz.prog 38 #[.agg #[.slice pa np pc],.agg #[.int .i64 16,.int .i64 F,.int .i64 G,.int .i64 L,.int .i64 O,.int .i64 N,.float .f64 X,.string S,.slice na nn nc,.slice ka nk kc]] w fun e w'=>e= .returned (.bool false)/\Onw w w':=by
 obtain ⟨hn,hk,hnn,htx,hr,hz,ht,hm⟩:=H
 dsimp only at hk hnn htx hr hz
 have T:=Two.new w pa np pc 16 F G L O N X S na nn nc ka nk kc
 have ob:=Two.start w pa np pc 16 F G L O N X S na nn nc ka nk kc
 go_enter Tryz.func38,Tryz.ntmps38
 go_wp2_with fail
 refine (l6bare_any ⟨⟨16,F,G,L,O,N,X,S,nn,nm,nk,kd⟩,na,nc,ka,kc⟩ _ false false false false Zb).mono ?_
 rintro e w1 ⟨rfl,O1⟩
 replace T:=T.onw O1
 replace ob:=ob.trans O1
 clear O1
 obtain ⟨q0,hq0⟩:∃q,bareP (⟨16,F,G,L,O,N,X,S,nn,nm,nk,kd⟩:PD) false false false false=q:=⟨_,rfl⟩
 exact J73
theorem st8_2 (H:Prm w np pm pa pc ⟨⟨8,F,G,L,O,N,X,S,nn,nm,2,kd⟩,na,nc,ka,kc⟩):
  Calls Tryz.prog 38 #[.agg #[.slice pa np pc],.agg #[.int .i64 8,.int .i64 F,.int .i64 G,.int .i64 L,.int .i64 O,.int .i64 N,.float .f64 X,.string S,.slice na nn nc,.slice ka 2 kc]] w fun e w'=>e= .returned (.bool (((bareP (⟨8,F,G,L,O,N,X,S,nn,nm,2,kd⟩:PD) false false false false)&&((exprsP (pdOf pm) (⟨8,F,G,L,O,N,X,S,nn,nm,2,kd⟩:PD) 0 1)&&(kidP (pdOf pm) (⟨8,F,G,L,O,N,X,S,nn,nm,2,kd⟩:PD) 1==1)))))/\Onw w w':=by
 obtain ⟨hn,hk,hnn,htx,hr,hz,ht,hm⟩:=H
 dsimp only at hk hnn htx hr hz
 have T:=Two.new w pa np pc 8 F G L O N X S na nn nc ka 2 kc
 have ob:=Two.start w pa np pc 8 F G L O N X S na nn nc ka 2 kc
 go_enter Tryz.func38,Tryz.ntmps38
 go_wp2_with fail
 refine (l6bare_any ⟨⟨8,F,G,L,O,N,X,S,nn,nm,2,kd⟩,na,nc,ka,kc⟩ _ false false false false Zb).mono ?_
 rintro e w1 ⟨rfl,O1⟩
 replace T:=T.onw O1
 replace ob:=ob.trans O1
 clear O1
 obtain ⟨q0,hq0⟩:∃q,bareP (⟨8,F,G,L,O,N,X,S,nn,nm,2,kd⟩:PD) false false false false=q:=⟨_,rfl⟩
 rw[hq0]
 have x0:Hid _:=hq0
 clear hq0
 cases q0
 ·
  exact J10
 ·
  have ⟨t0,c0,c1,c2,c3,c4,c5,c6,c7,c8,c9⟩:=T
  go_wp2_with fail
  clear t0 c0 c1 c2 c3 c4 c5 c6 c7 c8 c9
  refine (l6exprs_any ⟨np,pm,pa,pc⟩ ⟨⟨8,F,G,L,O,N,X,S,nn,nm,2,kd⟩,na,nc,ka,kc⟩ 0 1 _ hn Zo Zh hk hr (TM.At.onw ob ht) (hm.2.onw ob)).mono ?_
  rintro e w1 ⟨rfl,O1⟩
  replace T:=T.onw O1
  replace ob:=ob.trans O1
  clear O1
  obtain ⟨q1,hq1⟩:∃q,exprsP (pdOf pm) (⟨8,F,G,L,O,N,X,S,nn,nm,2,kd⟩:PD) 0 1=q:=⟨_,rfl⟩
  rw[hq1]
  have x1:Hid _:=hq1
  clear hq1
  cases q1
  ·
   exact J46
  ·
   have ⟨t0,c0,c1,c2,c3,c4,c5,c6,c7,c8,c9⟩:=T
   go_wp2_with fail
   clear t0 c0 c1 c2 c3 c4 c5 c6 c7 c8 c9
   refine (l6kid_any ⟨np,pm,pa,pc⟩ ⟨⟨8,F,G,L,O,N,X,S,nn,nm,2,kd⟩,na,nc,ka,kc⟩ 1 _ hn Zh hk (hr 1 Zo).1 (hr 1 Zo).2 (TM.At.onw ob ht) (hm.2.onw ob)).mono ?_
   rintro e w1 ⟨rfl,O1⟩
   replace T:=T.onw O1
   replace ob:=ob.trans O1
   clear O1
   obtain ⟨q2,hq2⟩:∃q,kidP (pdOf pm) (⟨8,F,G,L,O,N,X,S,nn,nm,2,kd⟩:PD) 1=q:=⟨_,rfl⟩
   rw[hq2]
   by_cases y2:q2=1
   ·have x2:Hid ((kidP (pdOf pm) (⟨8,F,G,L,O,N,X,S,nn,nm,2,kd⟩:PD) 1==1)=true):=J289
    exact J92
   ·have x2:Hid ((kidP (pdOf pm) (⟨8,F,G,L,O,N,X,S,nn,nm,2,kd⟩:PD) 1==1)=false):=J282
    clear hq2
    exact J58
theorem st8_no (hne:nk≠2)(H:Prm w np pm pa pc ⟨⟨8,F,G,L,O,N,X,S,nn,nm,nk,kd⟩,na,nc,ka,kc⟩):
  Calls Tryz.prog 38 #[.agg #[.slice pa np pc],.agg #[.int .i64 8,.int .i64 F,.int .i64 G,.int .i64 L,.int .i64 O,.int .i64 N,.float .f64 X,.string S,.slice na nn nc,.slice ka nk kc]] w fun e w'=>e= .returned (.bool false)/\Onw w w':=by
 obtain ⟨hn,hk,hnn,htx,hr,hz,ht,hm⟩:=H
 dsimp only at hk hnn htx hr hz
 have T:=Two.new w pa np pc 8 F G L O N X S na nn nc ka nk kc
 have ob:=Two.start w pa np pc 8 F G L O N X S na nn nc ka nk kc
 go_enter Tryz.func38,Tryz.ntmps38
 go_wp2_with fail
 refine (l6bare_any ⟨⟨8,F,G,L,O,N,X,S,nn,nm,nk,kd⟩,na,nc,ka,kc⟩ _ false false false false Zb).mono ?_
 rintro e w1 ⟨rfl,O1⟩
 replace T:=T.onw O1
 replace ob:=ob.trans O1
 clear O1
 obtain ⟨q0,hq0⟩:∃q,bareP (⟨8,F,G,L,O,N,X,S,nn,nm,nk,kd⟩:PD) false false false false=q:=⟨_,rfl⟩
 exact J73
theorem st10_2 (H:Prm w np pm pa pc ⟨⟨10,F,G,L,O,N,X,S,nn,nm,2,kd⟩,na,nc,ka,kc⟩):
  Calls Tryz.prog 38 #[.agg #[.slice pa np pc],.agg #[.int .i64 10,.int .i64 F,.int .i64 G,.int .i64 L,.int .i64 O,.int .i64 N,.float .f64 X,.string S,.slice na nn nc,.slice ka 2 kc]] w fun e w'=>e= .returned (.bool (((bareP (⟨10,F,G,L,O,N,X,S,nn,nm,2,kd⟩:PD) false false false true)&&((namedP (⟨10,F,G,L,O,N,X,S,nn,nm,2,kd⟩:PD) 1 200)&&((exprsP (pdOf pm) (⟨10,F,G,L,O,N,X,S,nn,nm,2,kd⟩:PD) 0 1)&&(kidP (pdOf pm) (⟨10,F,G,L,O,N,X,S,nn,nm,2,kd⟩:PD) 1==1))))))/\Onw w w':=by
 obtain ⟨hn,hk,hnn,htx,hr,hz,ht,hm⟩:=H
 dsimp only at hk hnn htx hr hz
 have T:=Two.new w pa np pc 10 F G L O N X S na nn nc ka 2 kc
 have ob:=Two.start w pa np pc 10 F G L O N X S na nn nc ka 2 kc
 go_enter Tryz.func38,Tryz.ntmps38
 go_wp2_with fail
 refine (l6bare_any ⟨⟨10,F,G,L,O,N,X,S,nn,nm,2,kd⟩,na,nc,ka,kc⟩ _ false false false true Zb).mono ?_
 rintro e w1 ⟨rfl,O1⟩
 replace T:=T.onw O1
 replace ob:=ob.trans O1
 clear O1
 obtain ⟨q0,hq0⟩:∃q,bareP (⟨10,F,G,L,O,N,X,S,nn,nm,2,kd⟩:PD) false false false true=q:=⟨_,rfl⟩
 rw[hq0]
 have x0:Hid _:=hq0
 clear hq0
 cases q0
 ·
  exact J10
 ·
  have ⟨t0,c0,c1,c2,c3,c4,c5,c6,c7,c8,c9⟩:=T
  go_wp2_with fail
  clear t0 c0 c1 c2 c3 c4 c5 c6 c7 c8 c9
  refine (l6named_any ⟨⟨10,F,G,L,O,N,X,S,nn,nm,2,kd⟩,na,nc,ka,kc⟩ 1 200 _ hnn hz (hm.1.onw ob)).mono ?_
  rintro e w1 ⟨rfl,O1⟩
  replace T:=T.onw O1
  replace ob:=ob.trans O1
  clear O1
  obtain ⟨q1,hq1⟩:∃q,namedP (⟨10,F,G,L,O,N,X,S,nn,nm,2,kd⟩:PD) 1 200=q:=⟨_,rfl⟩
  rw[hq1]
  have x1:Hid _:=hq1
  clear hq1
  cases q1
  ·
   exact J46
  ·
   have ⟨t0,c0,c1,c2,c3,c4,c5,c6,c7,c8,c9⟩:=T
   go_wp2_with fail
   clear t0 c0 c1 c2 c3 c4 c5 c6 c7 c8 c9
   refine (l6exprs_any ⟨np,pm,pa,pc⟩ ⟨⟨10,F,G,L,O,N,X,S,nn,nm,2,kd⟩,na,nc,ka,kc⟩ 0 1 _ hn Zo Zh hk hr (TM.At.onw ob ht) (hm.2.onw ob)).mono ?_
   rintro e w1 ⟨rfl,O1⟩
   replace T:=T.onw O1
   replace ob:=ob.trans O1
   clear O1
   obtain ⟨q2,hq2⟩:∃q,exprsP (pdOf pm) (⟨10,F,G,L,O,N,X,S,nn,nm,2,kd⟩:PD) 0 1=q:=⟨_,rfl⟩
   rw[hq2]
   have x2:Hid _:=hq2
   clear hq2
   cases q2
   ·
    exact J58
   ·
    have ⟨t0,c0,c1,c2,c3,c4,c5,c6,c7,c8,c9⟩:=T
    go_wp2_with fail
    clear t0 c0 c1 c2 c3 c4 c5 c6 c7 c8 c9
    refine (l6kid_any ⟨np,pm,pa,pc⟩ ⟨⟨10,F,G,L,O,N,X,S,nn,nm,2,kd⟩,na,nc,ka,kc⟩ 1 _ hn Zh hk (hr 1 Zo).1 (hr 1 Zo).2 (TM.At.onw ob ht) (hm.2.onw ob)).mono ?_
    rintro e w1 ⟨rfl,O1⟩
    replace T:=T.onw O1
    replace ob:=ob.trans O1
    clear O1
    obtain ⟨q3,hq3⟩:∃q,kidP (pdOf pm) (⟨10,F,G,L,O,N,X,S,nn,nm,2,kd⟩:PD) 1=q:=⟨_,rfl⟩
    rw[hq3]
    by_cases y3:q3=1
    ·have x3:Hid ((kidP (pdOf pm) (⟨10,F,G,L,O,N,X,S,nn,nm,2,kd⟩:PD) 1==1)=true):=J315
     subst y3;clear hq3
     exact J68
    ·have x3:Hid ((kidP (pdOf pm) (⟨10,F,G,L,O,N,X,S,nn,nm,2,kd⟩:PD) 1==1)=false):=J293
     clear hq3
     exact J83
theorem st10_no (hne:nk≠2)(H:Prm w np pm pa pc ⟨⟨10,F,G,L,O,N,X,S,nn,nm,nk,kd⟩,na,nc,ka,kc⟩):
  Calls Tryz.prog 38 #[.agg #[.slice pa np pc],.agg #[.int .i64 10,.int .i64 F,.int .i64 G,.int .i64 L,.int .i64 O,.int .i64 N,.float .f64 X,.string S,.slice na nn nc,.slice ka nk kc]] w fun e w'=>e= .returned (.bool false)/\Onw w w':=by
 obtain ⟨hn,hk,hnn,htx,hr,hz,ht,hm⟩:=H
 dsimp only at hk hnn htx hr hz
 have T:=Two.new w pa np pc 10 F G L O N X S na nn nc ka nk kc
 have ob:=Two.start w pa np pc 10 F G L O N X S na nn nc ka nk kc
 go_enter Tryz.func38,Tryz.ntmps38
 go_wp2_with fail
 refine (l6bare_any ⟨⟨10,F,G,L,O,N,X,S,nn,nm,nk,kd⟩,na,nc,ka,kc⟩ _ false false false true Zb).mono ?_
 rintro e w1 ⟨rfl,O1⟩
 replace T:=T.onw O1
 replace ob:=ob.trans O1
 clear O1
 obtain ⟨q0,hq0⟩:∃q,bareP (⟨10,F,G,L,O,N,X,S,nn,nm,nk,kd⟩:PD) false false false true=q:=⟨_,rfl⟩
 rw[hq0]
 have x0:Hid _:=hq0
 clear hq0
 cases q0
 ·
  exact J29
 ·
  have ⟨t0,c0,c1,c2,c3,c4,c5,c6,c7,c8,c9⟩:=T
  go_wp2_with fail
  clear t0 c0 c1 c2 c3 c4 c5 c6 c7 c8 c9
  refine (l6named_any ⟨⟨10,F,G,L,O,N,X,S,nn,nm,nk,kd⟩,na,nc,ka,kc⟩ 1 200 _ hnn hz (hm.1.onw ob)).mono ?_
  rintro e w1 ⟨rfl,O1⟩
  replace T:=T.onw O1
  replace ob:=ob.trans O1
  clear O1
  obtain ⟨q1,hq1⟩:∃q,namedP (⟨10,F,G,L,O,N,X,S,nn,nm,nk,kd⟩:PD) 1 200=q:=⟨_,rfl⟩
  exact J88
theorem st11_0 (H:Prm w np pm pa pc ⟨⟨11,F,G,L,O,N,X,S,nn,nm,0,kd⟩,na,nc,ka,kc⟩):
  Calls Tryz.prog 38 #[.agg #[.slice pa np pc],.agg #[.int .i64 11,.int .i64 F,.int .i64 G,.int .i64 L,.int .i64 O,.int .i64 N,.float .f64 X,.string S,.slice na nn nc,.slice ka 0 kc]] w fun e w'=>e= .returned (.bool (bareP (⟨11,F,G,L,O,N,X,S,nn,nm,0,kd⟩:PD) false false false false))/\Onw w w':=by
 obtain ⟨hn,hk,hnn,htx,hr,hz,ht,hm⟩:=H
 dsimp only at hk hnn htx hr hz
 have T:=Two.new w pa np pc 11 F G L O N X S na nn nc ka 0 kc
 have ob:=Two.start w pa np pc 11 F G L O N X S na nn nc ka 0 kc
 go_enter Tryz.func38,Tryz.ntmps38
 go_wp2_with fail
 refine (l6bare_any ⟨⟨11,F,G,L,O,N,X,S,nn,nm,0,kd⟩,na,nc,ka,kc⟩ _ false false false false Zb).mono ?_
 rintro e w1 ⟨rfl,O1⟩
 replace T:=T.onw O1
 replace ob:=ob.trans O1
 clear O1
 obtain ⟨q0,hq0⟩:∃q,bareP (⟨11,F,G,L,O,N,X,S,nn,nm,0,kd⟩:PD) false false false false=q:=⟨_,rfl⟩
 exact J27
end Go.Proofs.YtlibofjbhhdjdaaGreat
