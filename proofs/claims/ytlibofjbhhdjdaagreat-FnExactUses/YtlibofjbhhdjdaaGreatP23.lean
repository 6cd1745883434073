import Derived.Test.YtlibofjbhhdjdaaGreatQ
import Derived.Test.YtlibofjbhhdjdaaGreatP21
set_option linter.unusedSimpArgs false
set_option maxRecDepth 100000
set_option maxHeartbeats 16000000
namespace Go.Proofs.YtlibofjbhhdjdaaGreat
open Go.RowKit
attribute [local go_sem] rsf
variable (w : World) (np : Nat) (pm : Nat -> PM) (pa : Option Addr) (pc : Nat) (F G L O N : Int) (X : Nat) (S : ByteArray) (nn : Nat) (nm : Nat -> ByteArray) (nk : Nat) (kd : Nat -> Int) (na : Option Addr) (nc : Nat) (ka : Option Addr) (kc : Nat)
theorem ex25_long (hlen:4000 < S.size)(H:Prm w np pm pa pc ⟨⟨25,F,G,L,O,N,X,S,nn,nm,0,kd⟩,na,nc,ka,kc⟩):
  Calls Tryz.prog 39 #[.agg #[.slice pa np pc],.agg #[.int .i64 25,.int .i64 F,.int .i64 G,.int .i64 L,.int .i64 O,.int .i64 N,.float .f64 X,.string S,.slice na nn nc,.slice ka 0 kc]] w fun e w'=>e= .returned (.bool false)/\Onw w w':=by
 obtain ⟨hn,hk,hnn,htx,hr,hz,ht,hm⟩:=H
 dsimp only at hk hnn htx hr hz
 have T:=Two.new w pa np pc 25 F G L O N X S na nn nc ka 0 kc
 have ob:=Two.start w pa np pc 25 F G L O N X S na nn nc ka 0 kc
 go_enter Tryz.func39,Tryz.ntmps39
 go_wp2_with fail
 refine (l6bare_any ⟨⟨25,F,G,L,O,N,X,S,nn,nm,0,kd⟩,na,nc,ka,kc⟩ _ false false true false Zb).mono ?_
 rintro e w1 ⟨rfl,O1⟩
 replace T:=T.onw O1
 replace ob:=ob.trans O1
 clear O1
 obtain ⟨q0,hq0⟩:∃q,bareP (⟨25,F,G,L,O,N,X,S,nn,nm,0,kd⟩:PD) false false true false=q:=⟨_,rfl⟩
 exact J73
theorem ex26_0 (H:Prm w np pm pa pc ⟨⟨26,F,G,L,O,N,X,S,nn,nm,0,kd⟩,na,nc,ka,kc⟩):
  Calls Tryz.prog 39 #[.agg #[.slice pa np pc],.agg #[.int .i64 26,.int .i64 F,.int .i64 G,.int .i64 L,.int .i64 O,.int .i64 N,.float .f64 X,.string S,.slice na nn nc,.slice ka 0 kc]] w fun e w'=>e= .returned (.bool (((bareP (⟨26,F,G,L,O,N,X,S,nn,nm,0,kd⟩:PD) false false true false)&&nameB S)))/\Onw w w':=by
 obtain ⟨hn,hk,hnn,htx,hr,hz,ht,hm⟩:=H
 dsimp only at hk hnn htx hr hz
 have T:=Two.new w pa np pc 26 F G L O N X S na nn nc ka 0 kc
 have ob:=Two.start w pa np pc 26 F G L O N X S na nn nc ka 0 kc
 go_enter Tryz.func39,Tryz.ntmps39
 go_wp2_with fail
 refine (l6bare_any ⟨⟨26,F,G,L,O,N,X,S,nn,nm,0,kd⟩,na,nc,ka,kc⟩ _ false false true false Zb).mono ?_
 rintro e w1 ⟨rfl,O1⟩
 replace T:=T.onw O1
 replace ob:=ob.trans O1
 clear O1
 obtain ⟨q0,hq0⟩:∃q,bareP (⟨26,F,G,L,O,N,X,S,nn,nm,0,kd⟩:PD) false false true false=q:=⟨_,rfl⟩
 rw[hq0]
 have x0:Hid _:=hq0
 clear hq0
 cases q0
 ·
  exact J10
 ·
  have ⟨t0,c0,c1,c2,c3,c4,c5,c6,c7,c8,c9⟩:=T
  go_wp2_with fail
  clear t0 c0 c1 c2 c3 c4 c5 c6 c7 c8 c9
  refine (l6nameok_any S _ htx).mono ?_
  rintro e w1 ⟨rfl,O1⟩
  replace T:=T.onw O1
  replace ob:=ob.trans O1
  clear O1
  obtain ⟨q1,hq1⟩:∃q,nameB S=q:=⟨_,rfl⟩
  exact J35
theorem ex26_no (hne:nk≠0)(H:Prm w np pm pa pc ⟨⟨26,F,G,L,O,N,X,S,nn,nm,nk,kd⟩,na,nc,ka,kc⟩):
  Calls Tryz.prog 39 #[.agg #[.slice pa np pc],.agg #[.int .i64 26,.int .i64 F,.int .i64 G,.int .i64 L,.int .i64 O,.int .i64 N,.float .f64 X,.string S,.slice na nn nc,.slice ka nk kc]] w fun e w'=>e= .returned (.bool false)/\Onw w w':=by
 obtain ⟨hn,hk,hnn,htx,hr,hz,ht,hm⟩:=H
 dsimp only at hk hnn htx hr hz
 have T:=Two.new w pa np pc 26 F G L O N X S na nn nc ka nk kc
 have ob:=Two.start w pa np pc 26 F G L O N X S na nn nc ka nk kc
 exact J55
theorem ex28_2 (H:Prm w np pm pa pc ⟨⟨28,F,G,L,O,N,X,S,nn,nm,2,kd⟩,na,nc,ka,kc⟩):
  Calls Tryz.prog 39 #[.agg #[.slice pa np pc],.agg #[.int .i64 28,.int .i64 F,.int .i64 G,.int .i64 L,.int .i64 O,.int .i64 N,.float .f64 X,.string S,.slice na nn nc,.slice ka 2 kc]] w fun e w'=>e= .returned (.bool (((exprsP (pdOf pm) (⟨28,F,G,L,O,N,X,S,nn,nm,2,kd⟩:PD) 0 2)&&bareP (⟨28,F,G,L,O,N,X,S,nn,nm,2,kd⟩:PD) false false false false)))/\Onw w w':=by
 obtain ⟨hn,hk,hnn,htx,hr,hz,ht,hm⟩:=H
 dsimp only at hk hnn htx hr hz
 have T:=Two.new w pa np pc 28 F G L O N X S na nn nc ka 2 kc
 have ob:=Two.start w pa np pc 28 F G L O N X S na nn nc ka 2 kc
 go_enter Tryz.func39,Tryz.ntmps39
 go_wp2_with fail
 refine (l6exprs_any ⟨np,pm,pa,pc⟩ ⟨⟨28,F,G,L,O,N,X,S,nn,nm,2,kd⟩,na,nc,ka,kc⟩ 0 2 _ hn Zo Zh hk hr (TM.At.onw ob ht) (hm.2.onw ob)).mono ?_
 rintro e w1 ⟨rfl,O1⟩
 replace T:=T.onw O1
 replace ob:=ob.trans O1
 clear O1
 obtain ⟨q0,hq0⟩:∃q,exprsP (pdOf pm) (⟨28,F,G,L,O,N,X,S,nn,nm,2,kd⟩:PD) 0 2=q:=⟨_,rfl⟩
 rw[hq0]
 have x0:Hid _:=hq0
 clear hq0
 cases q0
 ·
  exact J10
 ·
  have ⟨t0,c0,c1,c2,c3,c4,c5,c6,c7,c8,c9⟩:=T
  go_wp2_with fail
  clear t0 c0 c1 c2 c3 c4 c5 c6 c7 c8 c9
  refine (l6bare_any ⟨⟨28,F,G,L,O,N,X,S,nn,nm,2,kd⟩,na,nc,ka,kc⟩ _ false false false false Zb).mono ?_
  rintro e w1 ⟨rfl,O1⟩
  replace T:=T.onw O1
  replace ob:=ob.trans O1
  clear O1
  obtain ⟨q1,hq1⟩:∃q,bareP (⟨28,F,G,L,O,N,X,S,nn,nm,2,kd⟩:PD) false false false false=q:=⟨_,rfl⟩
  exact J35
theorem ex28_no (hne:nk≠2)(H:Prm w np pm pa pc ⟨⟨28,F,G,L,O,N,X,S,nn,nm,nk,kd⟩,na,nc,ka,kc⟩):
  Calls Tryz.prog 39 #[.agg #[.slice pa np pc],.agg #[.int .i64 28,.int .i64 F,.int .i64 G,.int .i64 L,.int .i64 O,.int .i64 N,.float .f64 X,.string S,.slice na nn nc,.slice ka nk kc]] w fun e w'=>e= .returned (.bool false)/\Onw w w':=by
 obtain ⟨hn,hk,hnn,htx,hr,hz,ht,hm⟩:=H
 dsimp only at hk hnn htx hr hz
 have T:=Two.new w pa np pc 28 F G L O N X S na nn nc ka nk kc
 have ob:=Two.start w pa np pc 28 F G L O N X S na nn nc ka nk kc
 exact J55
theorem ex29_2 (H:Prm w np pm pa pc ⟨⟨29,F,G,L,O,N,X,S,nn,nm,2,kd⟩,na,nc,ka,kc⟩):
  Calls Tryz.prog 39 #[.agg #[.slice pa np pc],.agg #[.int .i64 29,.int .i64 F,.int .i64 G,.int .i64 L,.int .i64 O,.int .i64 N,.float .f64 X,.string S,.slice na nn nc,.slice ka 2 kc]] w fun e w'=>e= .returned (.bool (((exprsP (pdOf pm) (⟨29,F,G,L,O,N,X,S,nn,nm,2,kd⟩:PD) 0 2)&&bareP (⟨29,F,G,L,O,N,X,S,nn,nm,2,kd⟩:PD) false false false false)))/\Onw w w':=by
 obtain ⟨hn,hk,hnn,htx,hr,hz,ht,hm⟩:=H
 dsimp only at hk hnn htx hr hz
 have T:=Two.new w pa np pc 29 F G L O N X S na nn nc ka 2 kc
 have ob:=Two.start w pa np pc 29 F G L O N X S na nn nc ka 2 kc
 go_enter Tryz.func39,Tryz.ntmps39
 go_wp2_with fail
 refine (l6exprs_any ⟨np,pm,pa,pc⟩ ⟨⟨29,F,G,L,O,N,X,S,nn,nm,2,kd⟩,na,nc,ka,kc⟩ 0 2 _ hn Zo Zh hk hr (TM.At.onw ob ht) (hm.2.onw ob)).mono ?_
 rintro e w1 ⟨rfl,O1⟩
 replace T:=T.onw O1
 replace ob:=ob.trans O1
 clear O1
 obtain ⟨q0,hq0⟩:∃q,exprsP (pdOf pm) (⟨29,F,G,L,O,N,X,S,nn,nm,2,kd⟩:PD) 0 2=q:=⟨_,rfl⟩
 rw[hq0]
 have x0:Hid _:=hq0
 clear hq0
 cases q0
 ·
  exact J10
 ·
  have ⟨t0,c0,c1,c2,c3,c4,c5,c6,c7,c8,c9⟩:=T
  go_wp2_with fail
  clear t0 c0 c1 c2 c3 c4 c5 c6 c7 c8 c9
  refine (l6bare_any ⟨⟨29,F,G,L,O,N,X,S,nn,nm,2,kd⟩,na,nc,ka,kc⟩ _ false false false false Zb).mono ?_
  rintro e w1 ⟨rfl,O1⟩
  replace T:=T.onw O1
  replace ob:=ob.trans O1
  clear O1
  obtain ⟨q1,hq1⟩:∃q,bareP (⟨29,F,G,L,O,N,X,S,nn,nm,2,kd⟩:PD) false false false false=q:=⟨_,rfl⟩
  exact J35
theorem ex29_no (hne:nk≠2)(H:Prm w np pm pa pc ⟨⟨29,F,G,L,O,N,X,S,nn,nm,nk,kd⟩,na,nc,ka,kc⟩):
  Calls Tryz.prog 39 #[.agg #[.slice pa np pc],.agg #[.int .i64 29,.int .i64 F,.int .i64 G,.int .i64 L,.int .i64 O,.int .i64 N,.float .f64 X,.string S,.slice na nn nc,.slice ka nk kc]] w fun e w'=>e= .returned (.bool false)/\Onw w w':=by
 obtain ⟨hn,hk,hnn,htx,hr,hz,ht,hm⟩:=H
 dsimp only at hk hnn htx hr hz
 have T:=Two.new w pa np pc 29 F G L O N X S na nn nc ka nk kc
 have ob:=Two.start w pa np pc 29 F G L O N X S na nn nc ka nk kc
 exact J55
theorem ex41_2 (H:Prm w np pm pa pc ⟨⟨41,F,G,L,O,N,X,S,nn,nm,2,kd⟩,na,nc,ka,kc⟩):
  Calls Tryz.prog 39 #[.agg #[.slice pa np pc],.agg #[.int .i64 41,.int .i64 F,.int .i64 G,.int .i64 L,.int .i64 O,.int .i64 N,.float .f64 X,.string S,.slice na nn nc,.slice ka 2 kc]] w fun e w'=>e= .returned (.bool (((exprsP (pdOf pm) (⟨41,F,G,L,O,N,X,S,nn,nm,2,kd⟩:PD) 0 2)&&bareP (⟨41,F,G,L,O,N,X,S,nn,nm,2,kd⟩:PD) false false false false)))/\Onw w w':=by
 obtain ⟨hn,hk,hnn,htx,hr,hz,ht,hm⟩:=H
 dsimp only at hk hnn htx hr hz
 have T:=Two.new w pa np pc 41 F G L O N X S na nn nc ka 2 kc
 have ob:=Two.start w pa np pc 41 F G L O N X S na nn nc ka 2 kc
 go_enter Tryz.func39,Tryz.ntmps39
 go_wp2_with fail
 refine (l6exprs_any ⟨np,pm,pa,pc⟩ ⟨⟨41,F,G,L,O,N,X,S,nn,nm,2,kd⟩,na,nc,ka,kc⟩ 0 2 _ hn Zo Zh hk hr (TM.At.onw ob ht) (hm.2.onw ob)).mono ?_
 rintro e w1 ⟨rfl,O1⟩
 replace T:=T.onw O1
 replace ob:=ob.trans O1
 clear O1
 obtain ⟨q0,hq0⟩:∃q,exprsP (pdOf pm) (⟨41,F,G,L,O,N,X,S,nn,nm,2,kd⟩:PD) 0 2=q:=⟨_,rfl⟩
 rw[hq0]
 have x0:Hid _:=hq0
 clear hq0
 cases q0
 ·
  exact J10
 ·
  have ⟨t0,c0,c1,c2,c3,c4,c5,c6,c7,c8,c9⟩:=T
  go_wp2_with fail
  clear t0 c0 c1 c2 c3 c4 c5 c6 c7 c8 c9
  refine (l6bare_any ⟨⟨41,F,G,L,O,N,X,S,nn,nm,2,kd⟩,na,nc,ka,kc⟩ _ false false false false Zb).mono ?_
  rintro e w1 ⟨rfl,O1⟩
  replace T:=T.onw O1
  replace ob:=ob.trans O1
  clear O1
  obtain ⟨q1,hq1⟩:∃q,bareP (⟨41,F,G,L,O,N,X,S,nn,nm,2,kd⟩:PD) false false false false=q:=⟨_,rfl⟩
  exact J35
theorem ex41_no (hne:nk≠2)(H:Prm w np pm pa pc ⟨⟨41,F,G,L,O,N,X,S,nn,nm,nk,kd⟩,na,nc,ka,kc⟩):
  Calls Tryz.prog 39 #[.agg #[.slice pa np pc],.agg #[.int .i64 41,.int .i64 F,.int .i64 G,.int .i64 L,.int .i64 O,.int .i64 N,.float .f64 X,.string S,.slice na nn nc,.slice ka nk kc]] w fun e w'=>e= .returned (.bool false)/\Onw w w':=by
 obtain ⟨hn,hk,hnn,htx,hr,hz,ht,hm⟩:=H
 dsimp only at hk hnn htx hr hz
 have T:=Two.new w pa np pc 41 F G L O N X S na nn nc ka nk kc
 have ob:=Two.start w pa np pc 41 F G L O N X S na nn nc ka nk kc
 exact J55
theorem ex32_2 (H:Prm w np pm pa pc ⟨⟨32,F,G,L,O,N,X,S,nn,nm,2,kd⟩,na,nc,ka,kc⟩):
  Calls Tryz.prog 39 #[.agg #[.slice pa np pc],.agg #[.int .i64 32,.int .i64 F,.int .i64 G,.int .i64 L,.int .i64 O,.int .i64 N,.float .f64 X,.string S,.slice na nn nc,.slice ka 2 kc]] w fun e w'=>e= .returned (.bool (((exprsP (pdOf pm) (⟨32,F,G,L,O,N,X,S,nn,nm,2,kd⟩:PD) 0 2)&&((!(kidP (pdOf pm) (⟨32,F,G,L,O,N,X,S,nn,nm,2,kd⟩:PD) 0==27))&&bareP (⟨32,F,G,L,O,N,X,S,nn,nm,2,kd⟩:PD) false false false false))))/\Onw w w':=by
 obtain ⟨hn,hk,hnn,htx,hr,hz,ht,hm⟩:=H
 dsimp only at hk hnn htx hr hz
 have T:=Two.new w pa np pc 32 F G L O N X S na nn nc ka 2 kc
 have ob:=Two.start w pa np pc 32 F G L O N X S na nn nc ka 2 kc
 go_enter Tryz.func39,Tryz.ntmps39
 go_wp2_with fail
 refine (l6exprs_any ⟨np,pm,pa,pc⟩ ⟨⟨32,F,G,L,O,N,X,S,nn,nm,2,kd⟩,na,nc,ka,kc⟩ 0 2 _ hn Zo Zh hk hr (TM.At.onw ob ht) (hm.2.onw ob)).mono ?_
 rintro e w1 ⟨rfl,O1⟩
 replace T:=T.onw O1
 replace ob:=ob.trans O1
 clear O1
 obtain ⟨q0,hq0⟩:∃q,exprsP (pdOf pm) (⟨32,F,G,L,O,N,X,S,nn,nm,2,kd⟩:PD) 0 2=q:=⟨_,rfl⟩
 rw[hq0]
 have x0:Hid _:=hq0
 clear hq0
 cases q0
 ·
  exact J10
 ·
  have ⟨t0,c0,c1,c2,c3,c4,c5,c6,c7,c8,c9⟩:=T
  go_wp2_with fail
  clear t0 c0 c1 c2 c3 c4 c5 c6 c7 c8 c9
  refine (l6kid_any ⟨np,pm,pa,pc⟩ ⟨⟨32,F,G,L,O,N,X,S,nn,nm,2,kd⟩,na,nc,ka,kc⟩ 0 _ hn Zh hk (hr 0 Zo).1 (hr 0 Zo).2 (TM.At.onw ob ht) (hm.2.onw ob)).mono ?_
  rintro e w1 ⟨rfl,O1⟩
  replace T:=T.onw O1
  replace ob:=ob.trans O1
  clear O1
  obtain ⟨q1,hq1⟩:∃q,kidP (pdOf pm) (⟨32,F,G,L,O,N,X,S,nn,nm,2,kd⟩:PD) 0=q:=⟨_,rfl⟩
  rw[hq1]
  by_cases y1:q1=27
  ·have x1:Hid ((kidP (pdOf pm) (⟨32,F,G,L,O,N,X,S,nn,nm,2,kd⟩:PD) 0==27)=true):=J301
   subst y1;clear hq1
   exact J46
  ·have x1:Hid ((kidP (pdOf pm) (⟨32,F,G,L,O,N,X,S,nn,nm,2,kd⟩:PD) 0==27)=false):=J283
   clear hq1
   have ⟨t0,c0,c1,c2,c3,c4,c5,c6,c7,c8,c9⟩:=T
   go_wp2_with fail
   clear t0 c0 c1 c2 c3 c4 c5 c6 c7 c8 c9
   refine (l6bare_any ⟨⟨32,F,G,L,O,N,X,S,nn,nm,2,kd⟩,na,nc,ka,kc⟩ _ false false false false Zb).mono ?_
   rintro e w1 ⟨rfl,O1⟩
   replace T:=T.onw O1
   replace ob:=ob.trans O1
   clear O1
   obtain ⟨q2,hq2⟩:∃q,bareP (⟨32,F,G,L,O,N,X,S,nn,nm,2,kd⟩:PD) false false false false=q:=⟨_,rfl⟩
   exact J41
theorem ex32_no (hne:nk≠2)(H:Prm w np pm pa pc ⟨⟨32,F,G,L,O,N,X,S,nn,nm,nk,kd⟩,na,nc,ka,kc⟩):
  Calls Tryz.prog 39 #[.agg #[.slice pa np pc],.agg #[.int .i64 32,.int .i64 F,.int .i64 G,.int .i64 L,.int .i64 O,.int .i64 N,.float .f64 X,.string S,.slice na nn nc,.slice ka nk kc]] w fun e w'=>e= .returned (.bool false)/\Onw w w':=by
 obtain ⟨hn,hk,hnn,htx,hr,hz,ht,hm⟩:=H
 dsimp only at hk hnn htx hr hz
 have T:=Two.new w pa np pc 32 F G L O N X S na nn nc ka nk kc
 have ob:=Two.start w pa np pc 32 F G L O N X S na nn nc ka nk kc
 exact J55
theorem ex30_1 (h1:19<=O)(h2:O<=22)(H:Prm w np pm pa pc ⟨⟨30,F,G,L,O,N,X,S,nn,nm,1,kd⟩,na,nc,ka,kc⟩):
  Calls Tryz.prog 39 #[.agg #[.slice pa np pc],.agg #[.int .i64 30,.int .i64 F,.int .i64 G,.int .i64 L,.int .i64 O,.int .i64 N,.float .f64 X,.string S,.slice na nn nc,.slice ka 1 kc]] w fun e w'=>e= .returned (.bool (((exprsP (pdOf pm) (⟨30,F,G,L,O,N,X,S,nn,nm,1,kd⟩:PD) 0 1)&&bareP (⟨30,F,G,L,O,N,X,S,nn,nm,1,kd⟩:PD) true false false false)))/\Onw w w':=by
 obtain ⟨hn,hk,hnn,htx,hr,hz,ht,hm⟩:=H
 dsimp only at hk hnn htx hr hz
 have T:=Two.new w pa np pc 30 F G L O N X S na nn nc ka 1 kc
 have ob:=Two.start w pa np pc 30 F G L O N X S na nn nc ka 1 kc
 go_enter Tryz.func39,Tryz.ntmps39
 go_wp2_with fail
 refine (l6exprs_any ⟨np,pm,pa,pc⟩ ⟨⟨30,F,G,L,O,N,X,S,nn,nm,1,kd⟩,na,nc,ka,kc⟩ 0 1 _ hn Zo Zh hk hr (TM.At.onw ob ht) (hm.2.onw ob)).mono ?_
 rintro e w1 ⟨rfl,O1⟩
 replace T:=T.onw O1
 replace ob:=ob.trans O1
 clear O1
 obtain ⟨q0,hq0⟩:∃q,exprsP (pdOf pm) (⟨30,F,G,L,O,N,X,S,nn,nm,1,kd⟩:PD) 0 1=q:=⟨_,rfl⟩
 rw[hq0]
 have x0:Hid _:=hq0
 clear hq0
 cases q0
 ·
  exact J10
 ·
  have ⟨t0,c0,c1,c2,c3,c4,c5,c6,c7,c8,c9⟩:=T
  go_wp2_with fail
  clear t0 c0 c1 c2 c3 c4 c5 c6 c7 c8 c9
  refine (l6bare_any ⟨⟨30,F,G,L,O,N,X,S,nn,nm,1,kd⟩,na,nc,ka,kc⟩ _ true false false false Zb).mono ?_
  rintro e w1 ⟨rfl,O1⟩
  replace T:=T.onw O1
  replace ob:=ob.trans O1
  clear O1
  obtain ⟨q1,hq1⟩:∃q,bareP (⟨30,F,G,L,O,N,X,S,nn,nm,1,kd⟩:PD) true false false false=q:=⟨_,rfl⟩
  exact J35
theorem ex37_c (q:Int)(hq:kidP (pdOf pm) (⟨37,F,G,L,O,N,X,S,nn,nm,1,kd⟩:PD) 0=q)(q1:q≠34)(q7:q≠27)(H:Prm w np pm pa pc ⟨⟨37,F,G,L,O,N,X,S,nn,nm,1,kd⟩,na,nc,ka,kc⟩):
  Calls Tryz.prog 39 #[.agg #[.slice pa np pc],.agg #[.int .i64 37,.int .i64 F,.int .i64 G,.int .i64 L,.int .i64 O,.int .i64 N,.float .f64 X,.string S,.slice na nn nc,.slice ka 1 kc]] w fun e w'=>e= .returned (.bool false)/\Onw w w':=by
 obtain ⟨hn,hk,hnn,htx,hr,hz,ht,hm⟩:=H
 dsimp only at hk hnn htx hr hz
 have T:=Two.new w pa np pc 37 F G L O N X S na nn nc ka 1 kc
 have ob:=Two.start w pa np pc 37 F G L O N X S na nn nc ka 1 kc
 go_enter Tryz.func39,Tryz.ntmps39
 go_wp2_with fail
 refine (l6kid_any ⟨np,pm,pa,pc⟩ ⟨⟨37,F,G,L,O,N,X,S,nn,nm,1,kd⟩,na,nc,ka,kc⟩ 0 _ hn Zh hk (hr 0 Zo).1 (hr 0 Zo).2 (TM.At.onw ob ht) (hm.2.onw ob)).mono ?_
 rintro e w1 ⟨rfl,O1⟩
 replace T:=T.onw O1
 replace ob:=ob.trans O1
 clear O1
 rw[hq]
 have ⟨t0,c0,c1,c2,c3,c4,c5,c6,c7,c8,c9⟩:=T
 go_wp2_with fail
 clear t0 c0 c1 c2 c3 c4 c5 c6 c7 c8 c9
 refine (l6kid_any ⟨np,pm,pa,pc⟩ ⟨⟨37,F,G,L,O,N,X,S,nn,nm,1,kd⟩,na,nc,ka,kc⟩ 0 _ hn Zh hk (hr 0 Zo).1 (hr 0 Zo).2 (TM.At.onw ob ht) (hm.2.onw ob)).mono ?_
 exact J161
theorem ex40_1 (H:Prm w np pm pa pc ⟨⟨40,F,G,L,O,N,X,S,nn,nm,1,kd⟩,na,nc,ka,kc⟩):
  Calls Tryz.prog 39 #[.agg #[.slice pa np pc],.agg #[.int .i64 40,.int .i64 F,.int .i64 G,.int .i64 L,.int .i64 O,.int .i64 N,.float .f64 X,.string S,.slice na nn nc,.slice ka 1 kc]] w fun e w'=>e= .returned (.bool (((exprsP (pdOf pm) (⟨40,F,G,L,O,N,X,S,nn,nm,1,kd⟩:PD) 0 1)&&bareP (⟨40,F,G,L,O,N,X,S,nn,nm,1,kd⟩:PD) false false false false)))/\Onw w w':=by
 obtain ⟨hn,hk,hnn,htx,hr,hz,ht,hm⟩:=H
 dsimp only at hk hnn htx hr hz
 have T:=Two.new w pa np pc 40 F G L O N X S na nn nc ka 1 kc
 have ob:=Two.start w pa np pc 40 F G L O N X S na nn nc ka 1 kc
 go_enter Tryz.func39,Tryz.ntmps39
 go_wp2_with fail
 refine (l6exprs_any ⟨np,pm,pa,pc⟩ ⟨⟨40,F,G,L,O,N,X,S,nn,nm,1,kd⟩,na,nc,ka,kc⟩ 0 1 _ hn Zo Zh hk hr (TM.At.onw ob ht) (hm.2.onw ob)).mono ?_
 rintro e w1 ⟨rfl,O1⟩
 replace T:=T.onw O1
 replace ob:=ob.trans O1
 clear O1
 obtain ⟨q0,hq0⟩:∃q,exprsP (pdOf pm) (⟨40,F,G,L,O,N,X,S,nn,nm,1,kd⟩:PD) 0 1=q:=⟨_,rfl⟩
 rw[hq0]
 have x0:Hid _:=hq0
 clear hq0
 cases q0
 ·
  exact J10
 ·
  have ⟨t0,c0,c1,c2,c3,c4,c5,c6,c7,c8,c9⟩:=T
  go_wp2_with fail
  clear t0 c0 c1 c2 c3 c4 c5 c6 c7 c8 c9
  refine (l6bare_any ⟨⟨40,F,G,L,O,N,X,S,nn,nm,1,kd⟩,na,nc,ka,kc⟩ _ false false false false Zb).mono ?_
  rintro e w1 ⟨rfl,O1⟩
  replace T:=T.onw O1
  replace ob:=ob.trans O1
  clear O1
  obtain ⟨q1,hq1⟩:∃q,bareP (⟨40,F,G,L,O,N,X,S,nn,nm,1,kd⟩:PD) false false false false=q:=⟨_,rfl⟩
  exact J35
theorem ex40_no (hne:nk≠1)(H:Prm w np pm pa pc ⟨⟨40,F,G,L,O,N,X,S,nn,nm,nk,kd⟩,na,nc,ka,kc⟩):
  Calls Tryz.prog 39 #[.agg #[.slice pa np pc],.agg #[.int .i64 40,.int .i64 F,.int .i64 G,.int .i64 L,.int .i64 O,.int .i64 N,.float .f64 X,.string S,.slice na nn nc,.slice ka nk kc]] w fun e w'=>e= .returned (.bool false)/\Onw w w':=by
 obtain ⟨hn,hk,hnn,htx,hr,hz,ht,hm⟩:=H
 dsimp only at hk hnn htx hr hz
 have T:=Two.new w pa np pc 40 F G L O N X S na nn nc ka nk kc
 have ob:=Two.start w pa np pc 40 F G L O N X S na nn nc ka nk kc
 exact J55
theorem ex42_1 (H:Prm w np pm pa pc ⟨⟨42,F,G,L,O,N,X,S,nn,nm,1,kd⟩,na,nc,ka,kc⟩):
  Calls Tryz.prog 39 #[.agg #[.slice pa np pc],.agg #[.int .i64 42,.int .i64 F,.int .i64 G,.int .i64 L,.int .i64 O,.int .i64 N,.float .f64 X,.string S,.slice na nn nc,.slice ka 1 kc]] w fun e w'=>e= .returned (.bool (((exprsP (pdOf pm) (⟨42,F,G,L,O,N,X,S,nn,nm,1,kd⟩:PD) 0 1)&&((bareP (⟨42,F,G,L,O,N,X,S,nn,nm,1,kd⟩:PD) false false true false)&&nameB S))))/\Onw w w':=by
 obtain ⟨hn,hk,hnn,htx,hr,hz,ht,hm⟩:=H
 dsimp only at hk hnn htx hr hz
 have T:=Two.new w pa np pc 42 F G L O N X S na nn nc ka 1 kc
 have ob:=Two.start w pa np pc 42 F G L O N X S na nn nc ka 1 kc
 go_enter Tryz.func39,Tryz.ntmps39
 go_wp2_with fail
 refine (l6exprs_any ⟨np,pm,pa,pc⟩ ⟨⟨42,F,G,L,O,N,X,S,nn,nm,1,kd⟩,na,nc,ka,kc⟩ 0 1 _ hn Zo Zh hk hr (TM.At.onw ob ht) (hm.2.onw ob)).mono ?_
 rintro e w1 ⟨rfl,O1⟩
 replace T:=T.onw O1
 replace ob:=ob.trans O1
 clear O1
 obtain ⟨q0,hq0⟩:∃q,exprsP (pdOf pm) (⟨42,F,G,L,O,N,X,S,nn,nm,1,kd⟩:PD) 0 1=q:=⟨_,rfl⟩
 rw[hq0]
 have x0:Hid _:=hq0
 clear hq0
 cases q0
 ·
  exact J10
 ·
  have ⟨t0,c0,c1,c2,c3,c4,c5,c6,c7,c8,c9⟩:=T
  go_wp2_with fail
  clear t0 c0 c1 c2 c3 c4 c5 c6 c7 c8 c9
  refine (l6bare_any ⟨⟨42,F,G,L,O,N,X,S,nn,nm,1,kd⟩,na,nc,ka,kc⟩ _ false false true false Zb).mono ?_
  rintro e w1 ⟨rfl,O1⟩
  replace T:=T.onw O1
  replace ob:=ob.trans O1
  clear O1
  obtain ⟨q1,hq1⟩:∃q,bareP (⟨42,F,G,L,O,N,X,S,nn,nm,1,kd⟩:PD) false false true false=q:=⟨_,rfl⟩
  rw[hq1]
  have x1:Hid _:=hq1
  clear hq1
  cases q1
  ·
   exact J46
  ·
   have ⟨t0,c0,c1,c2,c3,c4,c5,c6,c7,c8,c9⟩:=T
   go_wp2_with fail
   clear t0 c0 c1 c2 c3 c4 c5 c6 c7 c8 c9
   refine (l6nameok_any S _ htx).mono ?_
   rintro e w1 ⟨rfl,O1⟩
   replace T:=T.onw O1
   replace ob:=ob.trans O1
   clear O1
   obtain ⟨q2,hq2⟩:∃q,nameB S=q:=⟨_,rfl⟩
   exact J41
theorem ex42_no (hne:nk≠1)(H:Prm w np pm pa pc ⟨⟨42,F,G,L,O,N,X,S,nn,nm,nk,kd⟩,na,nc,ka,kc⟩):
  Calls Tryz.prog 39 #[.agg #[.slice pa np pc],.agg #[.int .i64 42,.int .i64 F,.int .i64 G,.int .i64 L,.int .i64 O,.int .i64 N,.float .f64 X,.string S,.slice na nn nc,.slice ka nk kc]] w fun e w'=>e= .returned (.bool false)/\Onw w w':=by
 obtain ⟨hn,hk,hnn,htx,hr,hz,ht,hm⟩:=H
 dsimp only at hk hnn htx hr hz
 have T:=Two.new w pa np pc 42 F G L O N X S na nn nc ka nk kc
 have ob:=Two.start w pa np pc 42 F G L O N X S na nn nc ka nk kc
 exact J55
end Go.Proofs.YtlibofjbhhdjdaaGreat
namespace Go.Proofs.YtlibofjbhhdjdaaGreat
open Go.RowKit
attribute [local go_sem] rsf
def entryP (k:Int):Bool:=decide (40<=k)&&decide (k<=42)
theorem ex35_nk (w:World)(np:Nat)(pm:Nat->PM)(pa:Option Addr)(pc:Nat)(F G L O N:Int)(X:Nat)(S:ByteArray)(nn:Nat)(nm:Nat->ByteArray)(nk:Nat)(kd:Nat->Int)(na:Option Addr)(nc:Nat)(ka:Option Addr)(kc:Nat)(hn:np<=1048576)(hk:nk<=1048576)(hr:∀j,j < nk->0<=kd j/\kd j < np)(ht:TM.At w ⟨np,pm,pa,pc⟩)(hm:PM.At w ⟨⟨35,F,G,L,O,N,X,S,nn,nm,nk,kd⟩,na,nc,ka,kc⟩):
  Calls Tryz.prog 39 #[.agg #[.slice pa np pc],.agg #[.int .i64 35,.int .i64 F,.int .i64 G,.int .i64 L,.int .i64 O,.int .i64 N,.float .f64 X,.string S,.slice na nn nc,.slice ka nk kc]] w fun e w'=>e= .returned (.bool (allB (fun j=>entryP (kidP (pdOf pm) (⟨35,F,G,L,O,N,X,S,nn,nm,nk,kd⟩:PD) j)) 0 nk&&bareP (⟨35,F,G,L,O,N,X,S,nn,nm,nk,kd⟩:PD) false false false false))/\Onw w w':=by
 have T:=Two.new w pa np pc 35 F G L O N X S na nn nc ka nk kc
 have ob:=Two.start w pa np pc 35 F G L O N X S na nn nc ka nk kc
 have HR:Hid _:=hr
 clear hr
 go_enter Tryz.func39,Tryz.ntmps39
 go_wp2_with fail
 go_loopw [205] (fun x wr=>∃j:Nat,j<=nk/\x= .int .i64 j/\Onw w wr/\Two wr w.heap.size pa np pc 35 F G L O N X S na nn nc ka nk kc/\allB (fun j=>entryP (kidP (pdOf pm) (⟨35,F,G,L,O,N,X,S,nn,nm,nk,kd⟩:PD) j)) 0 nk=allB (fun j=>entryP (kidP (pdOf pm) (⟨35,F,G,L,O,N,X,S,nn,nm,nk,kd⟩:PD) j)) j (nk-j)) (fun x _=>nk-(intOf x).toNat)
 case atStart=>exact ⟨0,Nat.zero_le _,rfl,ob,T,rfl⟩
 case round=>
  clear ob T
  obtain ⟨j,hj,rfl,ob,T,hq⟩:=hrel
  have HQ:Hid _:=hq
  clear hq
  by_cases hlt:j < nk
  ·obtain ⟨h0,h1⟩:=HR.out j hlt
   obtain ⟨q,hqq⟩:∃q,kidP (pdOf pm) (⟨35,F,G,L,O,N,X,S,nn,nm,nk,kd⟩:PD) j=q:=⟨_,rfl⟩
   have st:Hid (allB (fun j=>entryP (kidP (pdOf pm) (⟨35,F,G,L,O,N,X,S,nn,nm,nk,kd⟩:PD) j)) j (nk-j)=(entryP q&&allB (fun j=>entryP (kidP (pdOf pm) (⟨35,F,G,L,O,N,X,S,nn,nm,nk,kd⟩:PD) j)) (j+1) (nk-(j+1)))):=by
    exact J188
   obtain ⟨t0,c0,c1,c2,c3,c4,c5,c6,c7,c8,c9⟩:=T
   go_wp2_with fail
   have T:Two _ _ _ _ _ _ _ _ _ _ _ _ _ _ _ _ _ _ _:=⟨t0,c0,c1,c2,c3,c4,c5,c6,c7,c8,c9⟩
   clear t0 c0 c1 c2 c3 c4 c5 c6 c7 c8 c9
   refine (l6kid_any ⟨np,pm,pa,pc⟩ ⟨⟨35,F,G,L,O,N,X,S,nn,nm,nk,kd⟩,na,nc,ka,kc⟩ j _ hn hlt hk h0 h1 (TM.At.onw ob ht) (hm.2.onw ob)).mono ?_
   rintro e w1 ⟨rfl,O1⟩
   replace T:=T.onw O1
   replace ob:=ob.trans O1
   clear O1
   rw[hqq]
   cases hx:entryP q
   ·by_cases hlo:q < 40
    ·exact J128
    ·have hhi:42 < q:=by simp[entryP] at hx;omega
     exact J128
   ·have hlo:40<=q:=by simp[entryP] at hx;omega
    have hhi:q<=42:=by simp[entryP] at hx;omega
    exact J91
  ·have st:Hid (allB (fun j=>entryP (kidP (pdOf pm) (⟨35,F,G,L,O,N,X,S,nn,nm,nk,kd⟩:PD) j)) j (nk-j)=true):=by
    exact J127
   obtain ⟨t0,c0,c1,c2,c3,c4,c5,c6,c7,c8,c9⟩:=T
   go_wp2_with fail
   refine (l6bare_any ⟨⟨35,F,G,L,O,N,X,S,nn,nm,nk,kd⟩,na,nc,ka,kc⟩ _ false false false false Zb).mono ?_
   exact J145
theorem ex24_0 (w:World)(np:Nat)(pa:Option Addr)(pc:Nat)(F G L O N:Int)(X:Nat)(S:ByteArray)(nn:Nat)(nm:Nat->ByteArray)(kd:Nat->Int)(na:Option Addr)(nc:Nat)(ka:Option Addr)(kc:Nat):
  Calls Tryz.prog 39 #[.agg #[.slice pa np pc],.agg #[.int .i64 24,.int .i64 F,.int .i64 G,.int .i64 L,.int .i64 O,.int .i64 N,.float .f64 X,.string S,.slice na nn nc,.slice ka 0 kc]] w fun e w'=>e= .returned (.bool (bareP (⟨24,F,G,L,O,N,0,S,nn,nm,0,kd⟩:PD) false false false false&&fnum X))/\Onw w w':=by
 have T:=Two.new w pa np pc 24 F G L O N X S na nn nc ka 0 kc
 have ob:=Two.start w pa np pc 24 F G L O N X S na nn nc ka 0 kc
 go_enter Tryz.func39,Tryz.ntmps39
 go_wp2_with fail
 have O3:=Onw.alloc ((w.alloc (Obj.cells #[.slice pa np pc] 30)).alloc (Obj.cells #[.int .i64 24,.int .i64 F,.int .i64 G,.int .i64 L,.int .i64 O,.int .i64 N,.float .f64 X,.string S,.slice na nn nc,.slice ka 0 kc] 67)) (Obj.cells #[.int .i64 24,.int .i64 F,.int .i64 G,.int .i64 L,.int .i64 O,.int .i64 N,.float .f64 0,.string S,.slice na nn nc,.slice ka 0 kc] 67)
 replace T:=T.onw O3
 replace ob:=ob.trans O3
 clear O3
 refine (l6bare_any ⟨⟨24,F,G,L,O,N,0,S,nn,nm,0,kd⟩,na,nc,ka,kc⟩ _ false false false false Zb).mono ?_
 rintro e w1 ⟨rfl,O1⟩
 replace T:=T.onw O1
 replace ob:=ob.trans O1
 clear O1
 obtain ⟨q0,hq0⟩:∃q,bareP (⟨24,F,G,L,O,N,0,S,nn,nm,0,kd⟩:PD) false false false false=q:=⟨_,rfl⟩
 rw[hq0]
 have x0:Hid _:=hq0
 clear hq0
 obtain ⟨t0,c0,c1,c2,c3,c4,c5,c6,c7,c8,c9⟩:=T
 cases q0
 ·exact J157
 ·exact J157
theorem ex24_no (w:World)(np:Nat)(pa:Option Addr)(pc:Nat)(F G L O N:Int)(X:Nat)(S:ByteArray)(nn:Nat)(nk:Nat)(na:Option Addr)(nc:Nat)(ka:Option Addr)(kc:Nat)(hne:nk≠0):
  Calls Tryz.prog 39 #[.agg #[.slice pa np pc],.agg #[.int .i64 24,.int .i64 F,.int .i64 G,.int .i64 L,.int .i64 O,.int .i64 N,.float .f64 X,.string S,.slice na nn nc,.slice ka nk kc]] w fun e w'=>e= .returned (.bool false)/\Onw w w':=by
 have ob:=Two.start w pa np pc 24 F G L O N X S na nn nc ka nk kc
 have O3:=Onw.alloc ((w.alloc (Obj.cells #[.slice pa np pc] 30)).alloc (Obj.cells #[.int .i64 24,.int .i64 F,.int .i64 G,.int .i64 L,.int .i64 O,.int .i64 N,.float .f64 X,.string S,.slice na nn nc,.slice ka nk kc] 67)) (Obj.cells #[.int .i64 24,.int .i64 F,.int .i64 G,.int .i64 L,.int .i64 O,.int .i64 N,.float .f64 0,.string S,.slice na nn nc,.slice ka nk kc] 67)
 replace ob:=ob.trans O3
 clear O3
 exact J191
def noKind (k:Int):Bool:=!(exprP k)&&!(decide (40<=k)&&decide (k<=42))
theorem exNo (w:World)(np:Nat)(pa:Option Addr)(pc:Nat)(kind F G L O N:Int)(X:Nat)(S:ByteArray)(nn:Nat)(nk:Nat)(na:Option Addr)(nc:Nat)(ka:Option Addr)(kc:Nat)(hno:noKind kind=true):
  Calls Tryz.prog 39 #[.agg #[.slice pa np pc],.agg #[.int .i64 kind,.int .i64 F,.int .i64 G,.int .i64 L,.int .i64 O,.int .i64 N,.float .f64 X,.string S,.slice na nn nc,.slice ka nk kc]] w fun e w'=>e= .returned (.bool false)/\Onw w w':=by
 have ob:=Two.start w pa np pc kind F G L O N X S na nn nc ka nk kc
 have k20:kind≠20:=Zf
 have k21:kind≠21:=Zf
 have k22:kind≠22:=Zf
 have k23:kind≠23:=Zf
 have k24:kind≠24:=Zf
 have k25:kind≠25:=Zf
 have k26:kind≠26:=Zf
 have k27:kind≠27:=Zf
 have k28:kind≠28:=Zf
 have k29:kind≠29:=Zf
 have k30:kind≠30:=Zf
 have k31:kind≠31:=Zf
 have k32:kind≠32:=Zf
 have k33:kind≠33:=Zf
 have k34:kind≠34:=Zf
 have k35:kind≠35:=Zf
 have k36:kind≠36:=Zf
 have k37:kind≠37:=Zf
 have k40:kind≠40:=Zf
 have k41:kind≠41:=Zf
 have k42:kind≠42:=Zf
 clear hno
 exact J191
end Go.Proofs.YtlibofjbhhdjdaaGreat
