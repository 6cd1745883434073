import Derived.Test.YtlibofjbhhdjdaaGreatQ
import Derived.Test.YtlibofjbhhdjdaaGreatP21
import Derived.Test.YtlibofjbhhdjdaaGreatP23
import Derived.Test.YtlibofjbhhdjdaaGreatP22
set_option linter.unusedSimpArgs false
set_option maxRecDepth 100000
set_option maxHeartbeats 16000000
namespace Go.Proofs.YtlibofjbhhdjdaaGreat
open Go.RowKit
attribute [local go_sem] rsf
variable (w : World) (np : Nat) (pm : Nat -> PM) (pa : Option Addr) (pc : Nat) (F G L O N : Int) (X : Nat) (S : ByteArray) (nn : Nat) (nm : Nat -> ByteArray) (nk : Nat) (kd : Nat -> Int) (na : Option Addr) (nc : Nat) (ka : Option Addr) (kc : Nat)
theorem ex20_0 (H:Prm w np pm pa pc ⟨⟨20,F,G,L,O,N,X,S,nn,nm,0,kd⟩,na,nc,ka,kc⟩):
  Calls Tryz.prog 39 #[.agg #[.slice pa np pc],.agg #[.int .i64 20,.int .i64 F,.int .i64 G,.int .i64 L,.int .i64 O,.int .i64 N,.float .f64 X,.string S,.slice na nn nc,.slice ka 0 kc]] w fun e w'=>e= .returned (.bool (bareP (⟨20,F,G,L,O,N,X,S,nn,nm,0,kd⟩:PD) false false false false))/\Onw w w':=by
 obtain ⟨hn,hk,hnn,htx,hr,hz,ht,hm⟩:=H
 dsimp only at hk hnn htx hr hz
 have T:=Two.new w pa np pc 20 F G L O N X S na nn nc ka 0 kc
 have ob:=Two.start w pa np pc 20 F G L O N X S na nn nc ka 0 kc
 go_enter Tryz.func39,Tryz.ntmps39
 go_wp2_with fail
 refine (l6bare_any ⟨⟨20,F,G,L,O,N,X,S,nn,nm,0,kd⟩,na,nc,ka,kc⟩ _ false false false false Zb).mono ?_
 rintro e w1 ⟨rfl,O1⟩
 replace T:=T.onw O1
 replace ob:=ob.trans O1
 clear O1
 obtain ⟨q0,hq0⟩:∃q,bareP (⟨20,F,G,L,O,N,X,S,nn,nm,0,kd⟩:PD) false false false false=q:=⟨_,rfl⟩
 exact J27
theorem ex20_no (hne:nk≠0)(H:Prm w np pm pa pc ⟨⟨20,F,G,L,O,N,X,S,nn,nm,nk,kd⟩,na,nc,ka,kc⟩):
  Calls Tryz.prog 39 #[.agg #[.slice pa np pc],.agg #[.int .i64 20,.int .i64 F,.int .i64 G,.int .i64 L,.int .i64 O,.int .i64 N,.float .f64 X,.string S,.slice na nn nc,.slice ka nk kc]] w fun e w'=>e= .returned (.bool false)/\Onw w w':=by
 obtain ⟨hn,hk,hnn,htx,hr,hz,ht,hm⟩:=H
 dsimp only at hk hnn htx hr hz
 have T:=Two.new w pa np pc 20 F G L O N X S na nn nc ka nk kc
 have ob:=Two.start w pa np pc 20 F G L O N X S na nn nc ka nk kc
 exact J55
theorem ex21_0 (H:Prm w np pm pa pc ⟨⟨21,F,G,L,O,N,X,S,nn,nm,0,kd⟩,na,nc,ka,kc⟩):
  Calls Tryz.prog 39 #[.agg #[.slice pa np pc],.agg #[.int .i64 21,.int .i64 F,.int .i64 G,.int .i64 L,.int .i64 O,.int .i64 N,.float .f64 X,.string S,.slice na nn nc,.slice ka 0 kc]] w fun e w'=>e= .returned (.bool (bareP (⟨21,F,G,L,O,N,X,S,nn,nm,0,kd⟩:PD) false false false false))/\Onw w w':=by
 obtain ⟨hn,hk,hnn,htx,hr,hz,ht,hm⟩:=H
 dsimp only at hk hnn htx hr hz
 have T:=Two.new w pa np pc 21 F G L O N X S na nn nc ka 0 kc
 have ob:=Two.start w pa np pc 21 F G L O N X S na nn nc ka 0 kc
 go_enter Tryz.func39,Tryz.ntmps39
 go_wp2_with fail
 refine (l6bare_any ⟨⟨21,F,G,L,O,N,X,S,nn,nm,0,kd⟩,na,nc,ka,kc⟩ _ false false false false Zb).mono ?_
 rintro e w1 ⟨rfl,O1⟩
 replace T:=T.onw O1
 replace ob:=ob.trans O1
 clear O1
 obtain ⟨q0,hq0⟩:∃q,bareP (⟨21,F,G,L,O,N,X,S,nn,nm,0,kd⟩:PD) false false false false=q:=⟨_,rfl⟩
 exact J27
theorem ex21_no (hne:nk≠0)(H:Prm w np pm pa pc ⟨⟨21,F,G,L,O,N,X,S,nn,nm,nk,kd⟩,na,nc,ka,kc⟩):
  Calls Tryz.prog 39 #[.agg #[.slice pa np pc],.agg #[.int .i64 21,.int .i64 F,.int .i64 G,.int .i64 L,.int .i64 O,.int .i64 N,.float .f64 X,.string S,.slice na nn nc,.slice ka nk kc]] w fun e w'=>e= .returned (.bool false)/\Onw w w':=by
 obtain ⟨hn,hk,hnn,htx,hr,hz,ht,hm⟩:=H
 dsimp only at hk hnn htx hr hz
 have T:=Two.new w pa np pc 21 F G L O N X S na nn nc ka nk kc
 have ob:=Two.start w pa np pc 21 F G L O N X S na nn nc ka nk kc
 exact J55
theorem ex22_0 (H:Prm w np pm pa pc ⟨⟨22,F,G,L,O,N,X,S,nn,nm,0,kd⟩,na,nc,ka,kc⟩):
  Calls Tryz.prog 39 #[.agg #[.slice pa np pc],.agg #[.int .i64 22,.int .i64 F,.int .i64 G,.int .i64 L,.int .i64 O,.int .i64 N,.float .f64 X,.string S,.slice na nn nc,.slice ka 0 kc]] w fun e w'=>e= .returned (.bool (bareP (⟨22,F,G,L,O,N,X,S,nn,nm,0,kd⟩:PD) false false false false))/\Onw w w':=by
 obtain ⟨hn,hk,hnn,htx,hr,hz,ht,hm⟩:=H
 dsimp only at hk hnn htx hr hz
 have T:=Two.new w pa np pc 22 F G L O N X S na nn nc ka 0 kc
 have ob:=Two.start w pa np pc 22 F G L O N X S na nn nc ka 0 kc
 go_enter Tryz.func39,Tryz.ntmps39
 go_wp2_with fail
 refine (l6bare_any ⟨⟨22,F,G,L,O,N,X,S,nn,nm,0,kd⟩,na,nc,ka,kc⟩ _ false false false false Zb).mono ?_
 rintro e w1 ⟨rfl,O1⟩
 replace T:=T.onw O1
 replace ob:=ob.trans O1
 clear O1
 obtain ⟨q0,hq0⟩:∃q,bareP (⟨22,F,G,L,O,N,X,S,nn,nm,0,kd⟩:PD) false false false false=q:=⟨_,rfl⟩
 exact J27
theorem ex22_no (hne:nk≠0)(H:Prm w np pm pa pc ⟨⟨22,F,G,L,O,N,X,S,nn,nm,nk,kd⟩,na,nc,ka,kc⟩):
  Calls Tryz.prog 39 #[.agg #[.slice pa np pc],.agg #[.int .i64 22,.int .i64 F,.int .i64 G,.int .i64 L,.int .i64 O,.int .i64 N,.float .f64 X,.string S,.slice na nn nc,.slice ka nk kc]] w fun e w'=>e= .returned (.bool false)/\Onw w w':=by
 obtain ⟨hn,hk,hnn,htx,hr,hz,ht,hm⟩:=H
 dsimp only at hk hnn htx hr hz
 have T:=Two.new w pa np pc 22 F G L O N X S na nn nc ka nk kc
 have ob:=Two.start w pa np pc 22 F G L O N X S na nn nc ka nk kc
 exact J55
theorem ex27_0 (H:Prm w np pm pa pc ⟨⟨27,F,G,L,O,N,X,S,nn,nm,0,kd⟩,na,nc,ka,kc⟩):
  Calls Tryz.prog 39 #[.agg #[.slice pa np pc],.agg #[.int .i64 27,.int .i64 F,.int .i64 G,.int .i64 L,.int .i64 O,.int .i64 N,.float .f64 X,.string S,.slice na nn nc,.slice ka 0 kc]] w fun e w'=>e= .returned (.bool (bareP (⟨27,F,G,L,O,N,X,S,nn,nm,0,kd⟩:PD) false false false false))/\Onw w w':=by
 obtain ⟨hn,hk,hnn,htx,hr,hz,ht,hm⟩:=H
 dsimp only at hk hnn htx hr hz
 have T:=Two.new w pa np pc 27 F G L O N X S na nn nc ka 0 kc
 have ob:=Two.start w pa np pc 27 F G L O N X S na nn nc ka 0 kc
 go_enter Tryz.func39,Tryz.ntmps39
 go_wp2_with fail
 refine (l6bare_any ⟨⟨27,F,G,L,O,N,X,S,nn,nm,0,kd⟩,na,nc,ka,kc⟩ _ false false false false Zb).mono ?_
 rintro e w1 ⟨rfl,O1⟩
 replace T:=T.onw O1
 replace ob:=ob.trans O1
 clear O1
 obtain ⟨q0,hq0⟩:∃q,bareP (⟨27,F,G,L,O,N,X,S,nn,nm,0,kd⟩:PD) false false false false=q:=⟨_,rfl⟩
 exact J27
theorem ex27_no (hne:nk≠0)(H:Prm w np pm pa pc ⟨⟨27,F,G,L,O,N,X,S,nn,nm,nk,kd⟩,na,nc,ka,kc⟩):
  Calls Tryz.prog 39 #[.agg #[.slice pa np pc],.agg #[.int .i64 27,.int .i64 F,.int .i64 G,.int .i64 L,.int .i64 O,.int .i64 N,.float .f64 X,.string S,.slice na nn nc,.slice ka nk kc]] w fun e w'=>e= .returned (.bool false)/\Onw w w':=by
 obtain ⟨hn,hk,hnn,htx,hr,hz,ht,hm⟩:=H
 dsimp only at hk hnn htx hr hz
 have T:=Two.new w pa np pc 27 F G L O N X S na nn nc ka nk kc
 have ob:=Two.start w pa np pc 27 F G L O N X S na nn nc ka nk kc
 exact J55
theorem ex23_0 (H:Prm w np pm pa pc ⟨⟨23,F,G,L,O,N,X,S,nn,nm,0,kd⟩,na,nc,ka,kc⟩):
  Calls Tryz.prog 39 #[.agg #[.slice pa np pc],.agg #[.int .i64 23,.int .i64 F,.int .i64 G,.int .i64 L,.int .i64 O,.int .i64 N,.float .f64 X,.string S,.slice na nn nc,.slice ka 0 kc]] w fun e w'=>e= .returned (.bool (bareP (⟨23,F,G,L,O,N,X,S,nn,nm,0,kd⟩:PD) false true false false))/\Onw w w':=by
 obtain ⟨hn,hk,hnn,htx,hr,hz,ht,hm⟩:=H
 dsimp only at hk hnn htx hr hz
 have T:=Two.new w pa np pc 23 F G L O N X S na nn nc ka 0 kc
 have ob:=Two.start w pa np pc 23 F G L O N X S na nn nc ka 0 kc
 go_enter Tryz.func39,Tryz.ntmps39
 go_wp2_with fail
 refine (l6bare_any ⟨⟨23,F,G,L,O,N,X,S,nn,nm,0,kd⟩,na,nc,ka,kc⟩ _ false true false false Zb).mono ?_
 rintro e w1 ⟨rfl,O1⟩
 replace T:=T.onw O1
 replace ob:=ob.trans O1
 clear O1
 obtain ⟨q0,hq0⟩:∃q,bareP (⟨23,F,G,L,O,N,X,S,nn,nm,0,kd⟩:PD) false true false false=q:=⟨_,rfl⟩
 exact J27
theorem ex23_no (hne:nk≠0)(H:Prm w np pm pa pc ⟨⟨23,F,G,L,O,N,X,S,nn,nm,nk,kd⟩,na,nc,ka,kc⟩):
  Calls Tryz.prog 39 #[.agg #[.slice pa np pc],.agg #[.int .i64 23,.int .i64 F,.int .i64 G,.int .i64 L,.int .i64 O,.int .i64 N,.float .f64 X,.string S,.slice na nn nc,.slice ka nk kc]] w fun e w'=>e= .returned (.bool false)/\Onw w w':=by
 obtain ⟨hn,hk,hnn,htx,hr,hz,ht,hm⟩:=H
 dsimp only at hk hnn htx hr hz
 have T:=Two.new w pa np pc 23 F G L O N X S na nn nc ka nk kc
 have ob:=Two.start w pa np pc 23 F G L O N X S na nn nc ka nk kc
 exact J55
theorem ex25_0 (hlen:S.size<=4000)(H:Prm w np pm pa pc ⟨⟨25,F,G,L,O,N,X,S,nn,nm,0,kd⟩,na,nc,ka,kc⟩):
  Calls Tryz.prog 39 #[.agg #[.slice pa np pc],.agg #[.int .i64 25,.int .i64 F,.int .i64 G,.int .i64 L,.int .i64 O,.int .i64 N,.float .f64 X,.string S,.slice na nn nc,.slice ka 0 kc]] w fun e w'=>e= .returned (.bool (bareP (⟨25,F,G,L,O,N,X,S,nn,nm,0,kd⟩:PD) false false true false))/\Onw w w':=by
 obtain ⟨hn,hk,hnn,htx,hr,hz,ht,hm⟩:=H
 dsimp only at hk hnn htx hr hz
 have T:=Two.new w pa np pc 25 F G L O N X S na nn nc ka 0 kc
 have ob:=Two.start w pa np pc 25 F G L O N X S na nn nc ka 0 kc
 go_enter Tryz.func39,Tryz.ntmps39
 go_wp2_with fail
 refine (l6bare_any ⟨⟨25,F,G,L,O,N,X,S,nn,nm,0,kd⟩,na,nc,ka,kc⟩ _ false false true false Zb).mono ?_
 rintro e w1 ⟨rfl,O1⟩
 replace T:=T.onw O1
 replace ob:=ob.trans O1
 clear O1
 obtain ⟨q0,hq0⟩:∃q,bareP (⟨25,F,G,L,O,N,X,S,nn,nm,0,kd⟩:PD) false false true false=q:=⟨_,rfl⟩
 exact J27
theorem ex25_no (hne:nk≠0)(H:Prm w np pm pa pc ⟨⟨25,F,G,L,O,N,X,S,nn,nm,nk,kd⟩,na,nc,ka,kc⟩):
  Calls Tryz.prog 39 #[.agg #[.slice pa np pc],.agg #[.int .i64 25,.int .i64 F,.int .i64 G,.int .i64 L,.int .i64 O,.int .i64 N,.float .f64 X,.string S,.slice na nn nc,.slice ka nk kc]] w fun e w'=>e= .returned (.bool false)/\Onw w w':=by
 obtain ⟨hn,hk,hnn,htx,hr,hz,ht,hm⟩:=H
 dsimp only at hk hnn htx hr hz
 have T:=Two.new w pa np pc 25 F G L O N X S na nn nc ka nk kc
 have ob:=Two.start w pa np pc 25 F G L O N X S na nn nc ka nk kc
 exact J55
theorem ex36_no (hne:nk≠1)(H:Prm w np pm pa pc ⟨⟨36,F,G,L,O,N,X,S,nn,nm,nk,kd⟩,na,nc,ka,kc⟩):
  Calls Tryz.prog 39 #[.agg #[.slice pa np pc],.agg #[.int .i64 36,.int .i64 F,.int .i64 G,.int .i64 L,.int .i64 O,.int .i64 N,.float .f64 X,.string S,.slice na nn nc,.slice ka nk kc]] w fun e w'=>e= .returned (.bool false)/\Onw w w':=by
 obtain ⟨hn,hk,hnn,htx,hr,hz,ht,hm⟩:=H
 dsimp only at hk hnn htx hr hz
 have T:=Two.new w pa np pc 36 F G L O N X S na nn nc ka nk kc
 have ob:=Two.start w pa np pc 36 F G L O N X S na nn nc ka nk kc
 exact J55
theorem ex36_b (H:Prm w np pm pa pc ⟨⟨36,F,G,L,1,N,X,S,nn,nm,1,kd⟩,na,nc,ka,kc⟩):
  Calls Tryz.prog 39 #[.agg #[.slice pa np pc],.agg #[.int .i64 36,.int .i64 F,.int .i64 G,.int .i64 L,.int .i64 1,.int .i64 N,.float .f64 X,.string S,.slice na nn nc,.slice ka 1 kc]] w fun e w'=>e= .returned (.bool (((kidP (pdOf pm) (⟨36,F,G,L,1,N,X,S,nn,nm,1,kd⟩:PD) 0==1)&&((bareP (⟨36,F,G,L,1,N,X,S,nn,nm,1,kd⟩:PD) true false false true)&&namedP (⟨36,F,G,L,1,N,X,S,nn,nm,1,kd⟩:PD) 0 200))))/\Onw w w':=by
 obtain ⟨hn,hk,hnn,htx,hr,hz,ht,hm⟩:=H
 dsimp only at hk hnn htx hr hz
 have T:=Two.new w pa np pc 36 F G L 1 N X S na nn nc ka 1 kc
 have ob:=Two.start w pa np pc 36 F G L 1 N X S na nn nc ka 1 kc
 go_enter Tryz.func39,Tryz.ntmps39
 go_wp2_with fail
 refine (l6kid_any ⟨np,pm,pa,pc⟩ ⟨⟨36,F,G,L,1,N,X,S,nn,nm,1,kd⟩,na,nc,ka,kc⟩ 0 _ hn Zh hk (hr 0 Zo).1 (hr 0 Zo).2 (TM.At.onw ob ht) (hm.2.onw ob)).mono ?_
 rintro e w1 ⟨rfl,O1⟩
 replace T:=T.onw O1
 replace ob:=ob.trans O1
 clear O1
 obtain ⟨q0,hq0⟩:∃q,kidP (pdOf pm) (⟨36,F,G,L,1,N,X,S,nn,nm,1,kd⟩:PD) 0=q:=⟨_,rfl⟩
 rw[hq0]
 by_cases y0:q0=1
 ·have x0:Hid ((kidP (pdOf pm) (⟨36,F,G,L,1,N,X,S,nn,nm,1,kd⟩:PD) 0==1)=true):=by show _=_;rw[hq0,y0];rfl
  subst y0;clear hq0
  have ⟨t0,c0,c1,c2,c3,c4,c5,c6,c7,c8,c9⟩:=T
  go_wp2_with fail
  clear t0 c0 c1 c2 c3 c4 c5 c6 c7 c8 c9
  refine (l6bare_any ⟨⟨36,F,G,L,1,N,X,S,nn,nm,1,kd⟩,na,nc,ka,kc⟩ _ true false false true Zb).mono ?_
  rintro e w1 ⟨rfl,O1⟩
  replace T:=T.onw O1
  replace ob:=ob.trans O1
  clear O1
  obtain ⟨q1,hq1⟩:∃q,bareP (⟨36,F,G,L,1,N,X,S,nn,nm,1,kd⟩:PD) true false false true=q:=⟨_,rfl⟩
  rw[hq1]
  have x1:Hid _:=hq1
  clear hq1
  cases q1
  ·
   exact J46
  ·
   have ⟨t0,c0,c1,c2,c3,c4,c5,c6,c7,c8,c9⟩:=T
   go_wp2_with fail
   clear t0 c0 c1 c2 c3 c4 c5 c6 c7 c8 c9
   refine (l6named_any ⟨⟨36,F,G,L,1,N,X,S,nn,nm,1,kd⟩,na,nc,ka,kc⟩ 0 200 _ hnn hz (hm.1.onw ob)).mono ?_
   rintro e w1 ⟨rfl,O1⟩
   replace T:=T.onw O1
   replace ob:=ob.trans O1
   clear O1
   obtain ⟨q2,hq2⟩:∃q,namedP (⟨36,F,G,L,1,N,X,S,nn,nm,1,kd⟩:PD) 0 200=q:=⟨_,rfl⟩
   exact J41
 ·have x0:Hid ((kidP (pdOf pm) (⟨36,F,G,L,1,N,X,S,nn,nm,1,kd⟩:PD) 0==1)=false):=J303
  clear hq0
  exact J10
theorem ex36_c (ho:O≠0)(ho':O≠1)(H:Prm w np pm pa pc ⟨⟨36,F,G,L,O,N,X,S,nn,nm,1,kd⟩,na,nc,ka,kc⟩):
  Calls Tryz.prog 39 #[.agg #[.slice pa np pc],.agg #[.int .i64 36,.int .i64 F,.int .i64 G,.int .i64 L,.int .i64 O,.int .i64 N,.float .f64 X,.string S,.slice na nn nc,.slice ka 1 kc]] w fun e w'=>e= .returned (.bool false)/\Onw w w':=by
 obtain ⟨hn,hk,hnn,htx,hr,hz,ht,hm⟩:=H
 dsimp only at hk hnn htx hr hz
 have T:=Two.new w pa np pc 36 F G L O N X S na nn nc ka 1 kc
 have ob:=Two.start w pa np pc 36 F G L O N X S na nn nc ka 1 kc
 go_enter Tryz.func39,Tryz.ntmps39
 go_wp2_with fail
 refine (l6kid_any ⟨np,pm,pa,pc⟩ ⟨⟨36,F,G,L,O,N,X,S,nn,nm,1,kd⟩,na,nc,ka,kc⟩ 0 _ hn Zh hk (hr 0 Zo).1 (hr 0 Zo).2 (TM.At.onw ob ht) (hm.2.onw ob)).mono ?_
 rintro e w1 ⟨rfl,O1⟩
 replace T:=T.onw O1
 replace ob:=ob.trans O1
 clear O1
 obtain ⟨q0,hq0⟩:∃q,kidP (pdOf pm) (⟨36,F,G,L,O,N,X,S,nn,nm,1,kd⟩:PD) 0=q:=⟨_,rfl⟩
 rw[hq0]
 by_cases y0:q0=1
 ·have x0:Hid ((kidP (pdOf pm) (⟨36,F,G,L,O,N,X,S,nn,nm,1,kd⟩:PD) 0==1)=true):=by show _=_;rw[hq0,y0];rfl
  subst y0;clear hq0
  have ⟨t0,c0,c1,c2,c3,c4,c5,c6,c7,c8,c9⟩:=T
  go_wp2_with fail
  clear t0 c0 c1 c2 c3 c4 c5 c6 c7 c8 c9
  refine (l6bare_any ⟨⟨36,F,G,L,O,N,X,S,nn,nm,1,kd⟩,na,nc,ka,kc⟩ _ true false false true Zb).mono ?_
  rintro e w1 ⟨rfl,O1⟩
  replace T:=T.onw O1
  replace ob:=ob.trans O1
  clear O1
  obtain ⟨q1,hq1⟩:∃q,bareP (⟨36,F,G,L,O,N,X,S,nn,nm,1,kd⟩:PD) true false false true=q:=⟨_,rfl⟩
  rw[hq1]
  have x1:Hid _:=hq1
  clear hq1
  cases q1
  ·
   exact J29
  ·
   have ⟨t0,c0,c1,c2,c3,c4,c5,c6,c7,c8,c9⟩:=T
   go_wp2_with fail
   clear t0 c0 c1 c2 c3 c4 c5 c6 c7 c8 c9
   refine (l6named_any ⟨⟨36,F,G,L,O,N,X,S,nn,nm,1,kd⟩,na,nc,ka,kc⟩ 0 200 _ hnn hz (hm.1.onw ob)).mono ?_
   rintro e w1 ⟨rfl,O1⟩
   replace T:=T.onw O1
   replace ob:=ob.trans O1
   clear O1
   obtain ⟨q2,hq2⟩:∃q,namedP (⟨36,F,G,L,O,N,X,S,nn,nm,1,kd⟩:PD) 0 200=q:=⟨_,rfl⟩
   rw[hq2]
   have x2:Hid _:=hq2
   clear hq2
   cases q2
   ·
    exact J29
   ·
    exact J34
 ·have x0:Hid ((kidP (pdOf pm) (⟨36,F,G,L,O,N,X,S,nn,nm,1,kd⟩:PD) 0==1)=false):=J303
  clear hq0
  exact J29
theorem ex37_a (hq:kidP (pdOf pm) (⟨37,F,G,L,O,N,X,S,nn,nm,1,kd⟩:PD) 0=34)(H:Prm w np pm pa pc ⟨⟨37,F,G,L,O,N,X,S,nn,nm,1,kd⟩,na,nc,ka,kc⟩):
  Calls Tryz.prog 39 #[.agg #[.slice pa np pc],.agg #[.int .i64 37,.int .i64 F,.int .i64 G,.int .i64 L,.int .i64 O,.int .i64 N,.float .f64 X,.string S,.slice na nn nc,.slice ka 1 kc]] w fun e w'=>e= .returned (.bool (bareP (⟨37,F,G,L,O,N,X,S,nn,nm,1,kd⟩:PD) false false false false))/\Onw w w':=by
 obtain ⟨hn,hk,hnn,htx,hr,hz,ht,hm⟩:=H
 dsimp only at hk hnn htx hr hz
 have T:=Two.new w pa np pc 37 F G L O N X S na nn nc ka 1 kc
 have ob:=Two.start w pa np pc 37 F G L O N X S na nn nc ka 1 kc
 go_enter Tryz.func39,Tryz.ntmps39
 go_wp2_with fail
 refine (l6kid_any ⟨np,pm,pa,pc⟩ ⟨⟨37,F,G,L,O,N,X,S,nn,nm,1,kd⟩,na,nc,ka,kc⟩ 0 _ hn Zh hk (hr 0 Zo).1 (hr 0 Zo).2 (TM.At.onw ob ht) (hm.2.onw ob)).mono ?_
 rintro e w1 ⟨rfl,O1⟩
 replace T:=T.onw O1
 replace ob:=ob.trans O1
 clear O1
 rw[hq]
 have ⟨t0,c0,c1,c2,c3,c4,c5,c6,c7,c8,c9⟩:=T
 go_wp2_with fail
 clear t0 c0 c1 c2 c3 c4 c5 c6 c7 c8 c9
 refine (l6bare_any ⟨⟨37,F,G,L,O,N,X,S,nn,nm,1,kd⟩,na,nc,ka,kc⟩ _ false false false false Zb).mono ?_
 rintro e w1 ⟨rfl,O1⟩
 replace T:=T.onw O1
 replace ob:=ob.trans O1
 clear O1
 obtain ⟨q1,hq1⟩:∃q,bareP (⟨37,F,G,L,O,N,X,S,nn,nm,1,kd⟩:PD) false false false false=q:=⟨_,rfl⟩
 rw[hq1]
 have x1:Hid _:=hq1
 clear hq1
 cases q1
 ·
  obtain ⟨t0,c0,c1,c2,c3,c4,c5,c6,c7,c8,c9⟩:=T
  go_wp2_with fail
  exact J107
 ·
  have ⟨t0,c0,c1,c2,c3,c4,c5,c6,c7,c8,c9⟩:=T
  go_wp2_with fail
  clear t0 c0 c1 c2 c3 c4 c5 c6 c7 c8 c9
  exact J107
theorem ex37_no (hne:nk≠1)(H:Prm w np pm pa pc ⟨⟨37,F,G,L,O,N,X,S,nn,nm,nk,kd⟩,na,nc,ka,kc⟩):
  Calls Tryz.prog 39 #[.agg #[.slice pa np pc],.agg #[.int .i64 37,.int .i64 F,.int .i64 G,.int .i64 L,.int .i64 O,.int .i64 N,.float .f64 X,.string S,.slice na nn nc,.slice ka nk kc]] w fun e w'=>e= .returned (.bool false)/\Onw w w':=by
 obtain ⟨hn,hk,hnn,htx,hr,hz,ht,hm⟩:=H
 dsimp only at hk hnn htx hr hz
 have T:=Two.new w pa np pc 37 F G L O N X S na nn nc ka nk kc
 have ob:=Two.start w pa np pc 37 F G L O N X S na nn nc ka nk kc
 exact J55
theorem ex37_b (hq:kidP (pdOf pm) (⟨37,F,G,L,O,N,X,S,nn,nm,1,kd⟩:PD) 0=27)(H:Prm w np pm pa pc ⟨⟨37,F,G,L,O,N,X,S,nn,nm,1,kd⟩,na,nc,ka,kc⟩):
  Calls Tryz.prog 39 #[.agg #[.slice pa np pc],.agg #[.int .i64 37,.int .i64 F,.int .i64 G,.int .i64 L,.int .i64 O,.int .i64 N,.float .f64 X,.string S,.slice na nn nc,.slice ka 1 kc]] w fun e w'=>e= .returned (.bool (bareP (⟨37,F,G,L,O,N,X,S,nn,nm,1,kd⟩:PD) false false false false))/\Onw w w':=by
 obtain ⟨hn,hk,hnn,htx,hr,hz,ht,hm⟩:=H
 dsimp only at hk hnn htx hr hz
 have T:=Two.new w pa np pc 37 F G L O N X S na nn nc ka 1 kc
 have ob:=Two.start w pa np pc 37 F G L O N X S na nn nc ka 1 kc
 go_enter Tryz.func39,Tryz.ntmps39
 go_wp2_with fail
 refine (l6kid_any ⟨np,pm,pa,pc⟩ ⟨⟨37,F,G,L,O,N,X,S,nn,nm,1,kd⟩,na,nc,ka,kc⟩ 0 _ hn Zh hk (hr 0 Zo).1 (hr 0 Zo).2 (TM.At.onw ob ht) (hm.2.onw ob)).mono ?_
 rintro e w1 ⟨rfl,O1⟩
 replace T:=T.onw O1
 replace ob:=ob.trans O1
 clear O1
 rw[hq]
 have ⟨t0,c0,c1,c2,c3,c4,c5,c6,c7,c8,c9⟩:=T
 go_wp2_with fail
 clear t0 c0 c1 c2 c3 c4 c5 c6 c7 c8 c9
 refine (l6kid_any ⟨np,pm,pa,pc⟩ ⟨⟨37,F,G,L,O,N,X,S,nn,nm,1,kd⟩,na,nc,ka,kc⟩ 0 _ hn Zh hk (hr 0 Zo).1 (hr 0 Zo).2 (TM.At.onw ob ht) (hm.2.onw ob)).mono ?_
 rintro e w1 ⟨rfl,O1⟩
 replace T:=T.onw O1
 replace ob:=ob.trans O1
 clear O1
 rw[hq]
 have ⟨t0,c0,c1,c2,c3,c4,c5,c6,c7,c8,c9⟩:=T
 go_wp2_with fail
 clear t0 c0 c1 c2 c3 c4 c5 c6 c7 c8 c9
 refine (l6bare_any ⟨⟨37,F,G,L,O,N,X,S,nn,nm,1,kd⟩,na,nc,ka,kc⟩ _ false false false false Zb).mono ?_
 rintro e w1 ⟨rfl,O1⟩
 replace T:=T.onw O1
 replace ob:=ob.trans O1
 clear O1
 obtain ⟨q2,hq2⟩:∃q,bareP (⟨37,F,G,L,O,N,X,S,nn,nm,1,kd⟩:PD) false false false false=q:=⟨_,rfl⟩
 rw[hq2]
 have x2:Hid _:=hq2
 clear hq2
 cases q2
 ·
  obtain ⟨t0,c0,c1,c2,c3,c4,c5,c6,c7,c8,c9⟩:=T
  go_wp2_with fail
  exact J108
 ·
  have ⟨t0,c0,c1,c2,c3,c4,c5,c6,c7,c8,c9⟩:=T
  go_wp2_with fail
  clear t0 c0 c1 c2 c3 c4 c5 c6 c7 c8 c9
  exact J108
end Go.Proofs.YtlibofjbhhdjdaaGreat
namespace Go.Proofs.YtlibofjbhhdjdaaGreat
open Go.RowKit
def expn20 (_pd:Nat->PD) (d:PD):Bool:=decide (d.nk=0)&&bareP d false false false false
def expn21 (_pd:Nat->PD) (d:PD):Bool:=decide (d.nk=0)&&bareP d false false false false
def expn22 (_pd:Nat->PD) (d:PD):Bool:=decide (d.nk=0)&&bareP d false false false false
def expn23 (_pd:Nat->PD) (d:PD):Bool:=decide (d.nk=0)&&bareP d false true false false
def expn24 (_pd:Nat->PD) (d:PD):Bool:=decide (d.nk=0)&&(bareP {d with flt:=0} false false false false&&fnum d.flt)
def expn25 (_pd:Nat->PD) (d:PD):Bool:=decide (d.nk=0)&&(decide (d.text.size<=4000)&&bareP d false false true false)
def expn26 (_pd:Nat->PD) (d:PD):Bool:=decide (d.nk=0)&&((bareP d false false true false)&&nameB d.text)
def expn27 (_pd:Nat->PD) (d:PD):Bool:=decide (d.nk=0)&&bareP d false false false false
def expn28 (pd:Nat->PD) (d:PD):Bool:=decide (d.nk=2)&&((exprsP pd d 0 2)&&bareP d false false false false)
def expn29 (pd:Nat->PD) (d:PD):Bool:=decide (d.nk=2)&&((exprsP pd d 0 2)&&bareP d false false false false)
def expn30 (pd:Nat->PD) (d:PD):Bool:=decide (d.nk=1)&&(decide (19<=d.op)&&(decide (d.op<=22)&&((exprsP pd d 0 1)&&bareP d true false false false)))
def expn31 (pd:Nat->PD) (d:PD):Bool:=decide (d.nk=2)&&(decide (1<=d.op)&&(decide (d.op<=18)&&((exprsP pd d 0 2)&&bareP d true false false false)))
def expn32 (pd:Nat->PD) (d:PD):Bool:=decide (d.nk=2)&&((exprsP pd d 0 2)&&((!(kidP pd d 0==27))&&bareP d false false false false))
def expn33 (pd:Nat->PD) (d:PD):Bool:=decide (d.nk=1)&&((exprsP pd d 0 1)&&((!(kidP pd d 0==27))&&((bareP d false false true false)&&nameB d.text)))
def expn34 (pd:Nat->PD) (d:PD):Bool:=decide (0 < d.nk)&&((exprsP pd d 0 d.nk)&&((!(kidP pd d 0==27))&&bareP d false false false false))
def expn35 (pd:Nat->PD) (d:PD):Bool:=allB (fun j=>entryP (kidP pd d j)) 0 d.nk&&bareP d false false false false
def expn36 (pd:Nat->PD) (d:PD):Bool:=decide (d.nk=1)&&((d.op==0||d.op==1)&&((kidP pd d 0==1)&&((bareP d true false false true)&&namedP d 0 200)))
def expn37 (pd:Nat->PD) (d:PD):Bool:=decide (d.nk=1)&&((kidP pd d 0==34||kidP pd d 0==27)&&bareP d false false false false)
def expn40 (pd:Nat->PD) (d:PD):Bool:=decide (d.nk=1)&&((exprsP pd d 0 1)&&bareP d false false false false)
def expn41 (pd:Nat->PD) (d:PD):Bool:=decide (d.nk=2)&&((exprsP pd d 0 2)&&bareP d false false false false)
def expn42 (pd:Nat->PD) (d:PD):Bool:=decide (d.nk=1)&&((exprsP pd d 0 1)&&((bareP d false false true false)&&nameB d.text))
def expnP (pd:Nat->PD) (d:PD):Bool:=
 if d.kind=20 then expn20 pd d else
 if d.kind=21 then expn21 pd d else
 if d.kind=22 then expn22 pd d else
 if d.kind=23 then expn23 pd d else
 if d.kind=24 then expn24 pd d else
 if d.kind=25 then expn25 pd d else
 if d.kind=26 then expn26 pd d else
 if d.kind=27 then expn27 pd d else
 if d.kind=28 then expn28 pd d else
 if d.kind=29 then expn29 pd d else
 if d.kind=30 then expn30 pd d else
 if d.kind=31 then expn31 pd d else
 if d.kind=32 then expn32 pd d else
 if d.kind=33 then expn33 pd d else
 if d.kind=34 then expn34 pd d else
 if d.kind=35 then expn35 pd d else
 if d.kind=36 then expn36 pd d else
 if d.kind=37 then expn37 pd d else
 if d.kind=40 then expn40 pd d else
 if d.kind=41 then expn41 pd d else
 if d.kind=42 then expn42 pd d else
 false
theorem l6expression_any (t:TM)(m:PM)(w:World)(hn:t.np<=1048576)(hk:m.nk<=1048576)(hnn:m.nn<=1048576)(htx:m.text.size<=1048576)(hr:∀j,j < m.nk->0<=m.kd j/\m.kd j < t.np)(hz:∀i,i < m.nn->(m.nm i).size<=1048576)(ht:t.At w)(hm:m.At w):
  Calls Tryz.prog 39 #[.agg #[.slice t.pa t.np t.pc],.agg #[.int .i64 m.kind,.int .i64 m.frm,.int .i64 m.tto,.int .i64 m.line,.int .i64 m.op,.int .i64 m.num,.float .f64 m.flt,.string m.text,.slice m.na m.nn m.nc,.slice m.ka m.nk m.kc]] w fun e w'=>e= .returned (.bool (expnP (pdOf t.pm) m.toPD))/\Onw w w':=by
 obtain ⟨np,pm,pa,pc⟩:=t
 obtain ⟨⟨kind,F,G,L,O,N,X,S,nn,nm,nk,kd⟩,na,nc,ka,kc⟩:=m
 simp only at*
 have hall:kind=20\/kind=21\/kind=22\/kind=23\/kind=24\/kind=25\/kind=26\/kind=27\/kind=28\/kind=29\/kind=30\/kind=31\/kind=32\/kind=33\/kind=34\/kind=35\/kind=36\/kind=37\/kind=40\/kind=41\/kind=42\/noKind kind=true:=by simp[noKind,exprP];omega
 rcases hall with rfl|rfl|rfl|rfl|rfl|rfl|rfl|rfl|rfl|rfl|rfl|rfl|rfl|rfl|rfl|rfl|rfl|rfl|rfl|rfl|rfl|hno
 ·by_cases h:nk=0
  ·subst h
   exact ex20_0 w np pm pa pc F G L O N X S nn nm kd na nc ka kc ⟨hn,hk,hnn,htx,hr,hz,ht,hm⟩
  ·have h0:expn20 (pdOf pm) (⟨20,F,G,L,O,N,X,S,nn,nm,nk,kd⟩:PD)=false:=by unfold expn20;rw[decide_eq_false (show¬(⟨20,F,G,L,O,N,X,S,nn,nm,nk,kd⟩:PD).nk=0 from h)];rfl
   refine (ex20_no w np pm pa pc F G L O N X S nn nm nk kd na nc ka kc h ⟨hn,hk,hnn,htx,hr,hz,ht,hm⟩).mono ?_
   exact J23
 ·by_cases h:nk=0
  ·subst h
   exact ex21_0 w np pm pa pc F G L O N X S nn nm kd na nc ka kc ⟨hn,hk,hnn,htx,hr,hz,ht,hm⟩
  ·have h0:expn21 (pdOf pm) (⟨21,F,G,L,O,N,X,S,nn,nm,nk,kd⟩:PD)=false:=by unfold expn21;rw[decide_eq_false (show¬(⟨21,F,G,L,O,N,X,S,nn,nm,nk,kd⟩:PD).nk=0 from h)];rfl
   refine (ex21_no w np pm pa pc F G L O N X S nn nm nk kd na nc ka kc h ⟨hn,hk,hnn,htx,hr,hz,ht,hm⟩).mono ?_
   exact J23
 ·by_cases h:nk=0
  ·subst h
   exact ex22_0 w np pm pa pc F G L O N X S nn nm kd na nc ka kc ⟨hn,hk,hnn,htx,hr,hz,ht,hm⟩
  ·have h0:expn22 (pdOf pm) (⟨22,F,G,L,O,N,X,S,nn,nm,nk,kd⟩:PD)=false:=by unfold expn22;rw[decide_eq_false (show¬(⟨22,F,G,L,O,N,X,S,nn,nm,nk,kd⟩:PD).nk=0 from h)];rfl
   refine (ex22_no w np pm pa pc F G L O N X S nn nm nk kd na nc ka kc h ⟨hn,hk,hnn,htx,hr,hz,ht,hm⟩).mono ?_
   exact J23
 ·by_cases h:nk=0
  ·subst h
   exact ex23_0 w np pm pa pc F G L O N X S nn nm kd na nc ka kc ⟨hn,hk,hnn,htx,hr,hz,ht,hm⟩
  ·have h0:expn23 (pdOf pm) (⟨23,F,G,L,O,N,X,S,nn,nm,nk,kd⟩:PD)=false:=by unfold expn23;rw[decide_eq_false (show¬(⟨23,F,G,L,O,N,X,S,nn,nm,nk,kd⟩:PD).nk=0 from h)];rfl
   refine (ex23_no w np pm pa pc F G L O N X S nn nm nk kd na nc ka kc h ⟨hn,hk,hnn,htx,hr,hz,ht,hm⟩).mono ?_
   exact J23
 ·by_cases h:nk=0
  ·subst h
   exact ex24_0 w np pa pc F G L O N X S nn nm kd na nc ka kc
  ·have h0:expn24 (pdOf pm) (⟨24,F,G,L,O,N,X,S,nn,nm,nk,kd⟩:PD)=false:=by unfold expn24;rw[decide_eq_false (show¬(⟨24,F,G,L,O,N,X,S,nn,nm,nk,kd⟩:PD).nk=0 from h)];rfl
   refine (ex24_no w np pa pc F G L O N X S nn nk na nc ka kc h).mono ?_
   exact J23
 ·by_cases h:nk=0
  ·subst h
   by_cases h2:S.size<=4000
   ·have h0:expn25 (pdOf pm) (⟨25,F,G,L,O,N,X,S,nn,nm,0,kd⟩:PD)=bareP (⟨25,F,G,L,O,N,X,S,nn,nm,0,kd⟩:PD) false false true false:=by unfold expn25;rw[decide_eq_true (show (⟨25,F,G,L,O,N,X,S,nn,nm,0,kd⟩:PD).text.size<=4000 from h2)];rfl
    refine (ex25_0 w np pm pa pc F G L O N X S nn nm kd na nc ka kc h2 ⟨hn,hk,hnn,htx,hr,hz,ht,hm⟩).mono ?_
    exact J23
   ·have h0:expn25 (pdOf pm) (⟨25,F,G,L,O,N,X,S,nn,nm,0,kd⟩:PD)=false:=by unfold expn25;rw[decide_eq_false (show¬(⟨25,F,G,L,O,N,X,S,nn,nm,0,kd⟩:PD).text.size<=4000 from h2)];rfl
    refine (ex25_long w np pm pa pc F G L O N X S nn nm kd na nc ka kc Zo ⟨hn,hk,hnn,htx,hr,hz,ht,hm⟩).mono ?_
    exact J23
  ·have h0:expn25 (pdOf pm) (⟨25,F,G,L,O,N,X,S,nn,nm,nk,kd⟩:PD)=false:=by unfold expn25;rw[decide_eq_false (show¬(⟨25,F,G,L,O,N,X,S,nn,nm,nk,kd⟩:PD).nk=0 from h)];rfl
   refine (ex25_no w np pm pa pc F G L O N X S nn nm nk kd na nc ka kc h ⟨hn,hk,hnn,htx,hr,hz,ht,hm⟩).mono ?_
   exact J23
 ·by_cases h:nk=0
  ·subst h
   exact ex26_0 w np pm pa pc F G L O N X S nn nm kd na nc ka kc ⟨hn,hk,hnn,htx,hr,hz,ht,hm⟩
  ·have h0:expn26 (pdOf pm) (⟨26,F,G,L,O,N,X,S,nn,nm,nk,kd⟩:PD)=false:=by unfold expn26;rw[decide_eq_false (show¬(⟨26,F,G,L,O,N,X,S,nn,nm,nk,kd⟩:PD).nk=0 from h)];rfl
   refine (ex26_no w np pm pa pc F G L O N X S nn nm nk kd na nc ka kc h ⟨hn,hk,hnn,htx,hr,hz,ht,hm⟩).mono ?_
   exact J23
 ·by_cases h:nk=0
  ·subst h
   exact ex27_0 w np pm pa pc F G L O N X S nn nm kd na nc ka kc ⟨hn,hk,hnn,htx,hr,hz,ht,hm⟩
  ·have h0:expn27 (pdOf pm) (⟨27,F,G,L,O,N,X,S,nn,nm,nk,kd⟩:PD)=false:=by unfold expn27;rw[decide_eq_false (show¬(⟨27,F,G,L,O,N,X,S,nn,nm,nk,kd⟩:PD).nk=0 from h)];rfl
   refine (ex27_no w np pm pa pc F G L O N X S nn nm nk kd na nc ka kc h ⟨hn,hk,hnn,htx,hr,hz,ht,hm⟩).mono ?_
   exact J23
 ·by_cases h:nk=2
  ·subst h
   exact ex28_2 w np pm pa pc F G L O N X S nn nm kd na nc ka kc ⟨hn,hk,hnn,htx,hr,hz,ht,hm⟩
  ·have h0:expn28 (pdOf pm) (⟨28,F,G,L,O,N,X,S,nn,nm,nk,kd⟩:PD)=false:=by unfold expn28;rw[decide_eq_false (show¬(⟨28,F,G,L,O,N,X,S,nn,nm,nk,kd⟩:PD).nk=2 from h)];rfl
   refine (ex28_no w np pm pa pc F G L O N X S nn nm nk kd na nc ka kc h ⟨hn,hk,hnn,htx,hr,hz,ht,hm⟩).mono ?_
   exact J23
 ·by_cases h:nk=2
  ·subst h
   exact ex29_2 w np pm pa pc F G L O N X S nn nm kd na nc ka kc ⟨hn,hk,hnn,htx,hr,hz,ht,hm⟩
  ·have h0:expn29 (pdOf pm) (⟨29,F,G,L,O,N,X,S,nn,nm,nk,kd⟩:PD)=false:=by unfold expn29;rw[decide_eq_false (show¬(⟨29,F,G,L,O,N,X,S,nn,nm,nk,kd⟩:PD).nk=2 from h)];rfl
   refine (ex29_no w np pm pa pc F G L O N X S nn nm nk kd na nc ka kc h ⟨hn,hk,hnn,htx,hr,hz,ht,hm⟩).mono ?_
   exact J23
 ·by_cases h:nk=1
  ·subst h
   by_cases h1:19<=O
   ·by_cases h2:O<=22
    ·have h0:expn30 (pdOf pm) (⟨30,F,G,L,O,N,X,S,nn,nm,1,kd⟩:PD)=(exprsP (pdOf pm) (⟨30,F,G,L,O,N,X,S,nn,nm,1,kd⟩:PD) 0 1&&bareP (⟨30,F,G,L,O,N,X,S,nn,nm,1,kd⟩:PD) true false false false):=by unfold expn30;rw[decide_eq_true (show 19<=(⟨30,F,G,L,O,N,X,S,nn,nm,1,kd⟩:PD).op from h1),decide_eq_true (show (⟨30,F,G,L,O,N,X,S,nn,nm,1,kd⟩:PD).op<=22 from h2)];rfl
     refine (ex30_1 w np pm pa pc F G L O N X S nn nm kd na nc ka kc h1 h2 ⟨hn,hk,hnn,htx,hr,hz,ht,hm⟩).mono ?_
     exact J23
    ·have h0:expn30 (pdOf pm) (⟨30,F,G,L,O,N,X,S,nn,nm,1,kd⟩:PD)=false:=by unfold expn30;rw[decide_eq_false (show¬(⟨30,F,G,L,O,N,X,S,nn,nm,1,kd⟩:PD).op<=22 from h2)];simp
     refine (ex30_hi w np pm pa pc F G L O N X S nn nm kd na nc ka kc h1 Zo ⟨hn,hk,hnn,htx,hr,hz,ht,hm⟩).mono ?_
     exact J23
   ·have h0:expn30 (pdOf pm) (⟨30,F,G,L,O,N,X,S,nn,nm,1,kd⟩:PD)=false:=by unfold expn30;rw[decide_eq_false (show¬19<=(⟨30,F,G,L,O,N,X,S,nn,nm,1,kd⟩:PD).op from h1)];simp
    refine (ex30_lo w np pm pa pc F G L O N X S nn nm kd na nc ka kc Zo ⟨hn,hk,hnn,htx,hr,hz,ht,hm⟩).mono ?_
    exact J23
  ·have h0:expn30 (pdOf pm) (⟨30,F,G,L,O,N,X,S,nn,nm,nk,kd⟩:PD)=false:=by unfold expn30;rw[decide_eq_false (show¬(⟨30,F,G,L,O,N,X,S,nn,nm,nk,kd⟩:PD).nk=1 from h)];rfl
   refine (ex30_no w np pm pa pc F G L O N X S nn nm nk kd na nc ka kc h ⟨hn,hk,hnn,htx,hr,hz,ht,hm⟩).mono ?_
   exact J23
 ·by_cases h:nk=2
  ·subst h
   by_cases h1:1<=O
   ·by_cases h2:O<=18
    ·have h0:expn31 (pdOf pm) (⟨31,F,G,L,O,N,X,S,nn,nm,2,kd⟩:PD)=(exprsP (pdOf pm) (⟨31,F,G,L,O,N,X,S,nn,nm,2,kd⟩:PD) 0 2&&bareP (⟨31,F,G,L,O,N,X,S,nn,nm,2,kd⟩:PD) true false false false):=by unfold expn31;rw[decide_eq_true (show 1<=(⟨31,F,G,L,O,N,X,S,nn,nm,2,kd⟩:PD).op from h1),decide_eq_true (show (⟨31,F,G,L,O,N,X,S,nn,nm,2,kd⟩:PD).op<=18 from h2)];rfl
     refine (ex31_2 w np pm pa pc F G L O N X S nn nm kd na nc ka kc h1 h2 ⟨hn,hk,hnn,htx,hr,hz,ht,hm⟩).mono ?_
     exact J23
    ·have h0:expn31 (pdOf pm) (⟨31,F,G,L,O,N,X,S,nn,nm,2,kd⟩:PD)=false:=by unfold expn31;rw[decide_eq_false (show¬(⟨31,F,G,L,O,N,X,S,nn,nm,2,kd⟩:PD).op<=18 from h2)];simp
     refine (ex31_hi w np pm pa pc F G L O N X S nn nm kd na nc ka kc h1 Zo ⟨hn,hk,hnn,htx,hr,hz,ht,hm⟩).mono ?_
     exact J23
   ·have h0:expn31 (pdOf pm) (⟨31,F,G,L,O,N,X,S,nn,nm,2,kd⟩:PD)=false:=by unfold expn31;rw[decide_eq_false (show¬1<=(⟨31,F,G,L,O,N,X,S,nn,nm,2,kd⟩:PD).op from h1)];simp
    refine (ex31_lo w np pm pa pc F G L O N X S nn nm kd na nc ka kc Zo ⟨hn,hk,hnn,htx,hr,hz,ht,hm⟩).mono ?_
    exact J23
  ·have h0:expn31 (pdOf pm) (⟨31,F,G,L,O,N,X,S,nn,nm,nk,kd⟩:PD)=false:=by unfold expn31;rw[decide_eq_false (show¬(⟨31,F,G,L,O,N,X,S,nn,nm,nk,kd⟩:PD).nk=2 from h)];rfl
   refine (ex31_no w np pm pa pc F G L O N X S nn nm nk kd na nc ka kc h ⟨hn,hk,hnn,htx,hr,hz,ht,hm⟩).mono ?_
   exact J23
 ·by_cases h:nk=2
  ·subst h
   exact ex32_2 w np pm pa pc F G L O N X S nn nm kd na nc ka kc ⟨hn,hk,hnn,htx,hr,hz,ht,hm⟩
  ·have h0:expn32 (pdOf pm) (⟨32,F,G,L,O,N,X,S,nn,nm,nk,kd⟩:PD)=false:=by unfold expn32;rw[decide_eq_false (show¬(⟨32,F,G,L,O,N,X,S,nn,nm,nk,kd⟩:PD).nk=2 from h)];rfl
   refine (ex32_no w np pm pa pc F G L O N X S nn nm nk kd na nc ka kc h ⟨hn,hk,hnn,htx,hr,hz,ht,hm⟩).mono ?_
   exact J23
 ·by_cases h:nk=1
  ·subst h
   exact ex33_1 w np pm pa pc F G L O N X S nn nm kd na nc ka kc ⟨hn,hk,hnn,htx,hr,hz,ht,hm⟩
  ·have h0:expn33 (pdOf pm) (⟨33,F,G,L,O,N,X,S,nn,nm,nk,kd⟩:PD)=false:=by unfold expn33;rw[decide_eq_false (show¬(⟨33,F,G,L,O,N,X,S,nn,nm,nk,kd⟩:PD).nk=1 from h)];rfl
   refine (ex33_no w np pm pa pc F G L O N X S nn nm nk kd na nc ka kc h ⟨hn,hk,hnn,htx,hr,hz,ht,hm⟩).mono ?_
   exact J23
 ·by_cases h:nk=0
  ·subst h;exact ex34_0 w np pm pa pc F G L O N X S nn nm kd na nc ka kc ⟨hn,hk,hnn,htx,hr,hz,ht,hm⟩
  ·have h0:expn34 (pdOf pm) (⟨34,F,G,L,O,N,X,S,nn,nm,nk,kd⟩:PD)=(exprsP (pdOf pm) (⟨34,F,G,L,O,N,X,S,nn,nm,nk,kd⟩:PD) 0 nk&&((!(kidP (pdOf pm) (⟨34,F,G,L,O,N,X,S,nn,nm,nk,kd⟩:PD) 0==27))&&bareP (⟨34,F,G,L,O,N,X,S,nn,nm,nk,kd⟩:PD) false false false false)):=by unfold expn34;rw[decide_eq_true (show 0 < (⟨34,F,G,L,O,N,X,S,nn,nm,nk,kd⟩:PD).nk from by show 0 < nk;omega)];rfl
   refine (ex34_nk w np pm pa pc F G L O N X S nn nm nk kd na nc ka kc Zo ⟨hn,hk,hnn,htx,hr,hz,ht,hm⟩).mono ?_
   exact J23
 ·exact ex35_nk w np pm pa pc F G L O N X S nn nm nk kd na nc ka kc hn hk hr ht hm
 ·by_cases h:nk=1
  ·subst h
   by_cases h1:O=0
   ·subst h1;exact ex36_a w np pm pa pc F G L N X S nn nm kd na nc ka kc ⟨hn,hk,hnn,htx,hr,hz,ht,hm⟩
   by_cases h2:O=1
   ·subst h2;exact ex36_b w np pm pa pc F G L N X S nn nm kd na nc ka kc ⟨hn,hk,hnn,htx,hr,hz,ht,hm⟩
   have h0:expn36 (pdOf pm) (⟨36,F,G,L,O,N,X,S,nn,nm,1,kd⟩:PD)=false:=by unfold expn36;rw[show ((⟨36,F,G,L,O,N,X,S,nn,nm,1,kd⟩:PD).op==0)=false from beq_false_of_ne h1,show ((⟨36,F,G,L,O,N,X,S,nn,nm,1,kd⟩:PD).op==1)=false from beq_false_of_ne h2];simp
   refine (ex36_c w np pm pa pc F G L O N X S nn nm kd na nc ka kc h1 h2 ⟨hn,hk,hnn,htx,hr,hz,ht,hm⟩).mono ?_
   exact J23
  ·have h0:expn36 (pdOf pm) (⟨36,F,G,L,O,N,X,S,nn,nm,nk,kd⟩:PD)=false:=by unfold expn36;rw[decide_eq_false (show¬(⟨36,F,G,L,O,N,X,S,nn,nm,nk,kd⟩:PD).nk=1 from h)];rfl
   refine (ex36_no w np pm pa pc F G L O N X S nn nm nk kd na nc ka kc h ⟨hn,hk,hnn,htx,hr,hz,ht,hm⟩).mono ?_
   exact J23
 ·by_cases h:nk=1
  ·subst h
   obtain ⟨q,hq⟩:∃q,kidP (pdOf pm) (⟨37,F,G,L,O,N,X,S,nn,nm,1,kd⟩:PD) 0=q:=⟨_,rfl⟩
   have h0:expn37 (pdOf pm) (⟨37,F,G,L,O,N,X,S,nn,nm,1,kd⟩:PD)=((q==34||q==27)&&bareP (⟨37,F,G,L,O,N,X,S,nn,nm,1,kd⟩:PD) false false false false):=by unfold expn37;rw[hq];rfl
   by_cases q1:q=34
   ·refine (ex37_a w np pm pa pc F G L O N X S nn nm kd na nc ka kc (hq.trans q1) ⟨hn,hk,hnn,htx,hr,hz,ht,hm⟩).mono ?_
    exact J162
   by_cases q7:q=27
   ·refine (ex37_b w np pm pa pc F G L O N X S nn nm kd na nc ka kc (hq.trans q7) ⟨hn,hk,hnn,htx,hr,hz,ht,hm⟩).mono ?_
    exact J163
   refine (ex37_c w np pm pa pc F G L O N X S nn nm kd na nc ka kc q hq q1 q7 ⟨hn,hk,hnn,htx,hr,hz,ht,hm⟩).mono ?_
   exact J148
  ·have h0:expn37 (pdOf pm) (⟨37,F,G,L,O,N,X,S,nn,nm,nk,kd⟩:PD)=false:=by unfold expn37;rw[decide_eq_false (show¬(⟨37,F,G,L,O,N,X,S,nn,nm,nk,kd⟩:PD).nk=1 from h)];rfl
   refine (ex37_no w np pm pa pc F G L O N X S nn nm nk kd na nc ka kc h ⟨hn,hk,hnn,htx,hr,hz,ht,hm⟩).mono ?_
   exact J23
 ·by_cases h:nk=1
  ·subst h
   exact ex40_1 w np pm pa pc F G L O N X S nn nm kd na nc ka kc ⟨hn,hk,hnn,htx,hr,hz,ht,hm⟩
  ·have h0:expn40 (pdOf pm) (⟨40,F,G,L,O,N,X,S,nn,nm,nk,kd⟩:PD)=false:=by unfold expn40;rw[decide_eq_false (show¬(⟨40,F,G,L,O,N,X,S,nn,nm,nk,kd⟩:PD).nk=1 from h)];rfl
   refine (ex40_no w np pm pa pc F G L O N X S nn nm nk kd na nc ka kc h ⟨hn,hk,hnn,htx,hr,hz,ht,hm⟩).mono ?_
   exact J23
 ·by_cases h:nk=2
  ·subst h
   exact ex41_2 w np pm pa pc F G L O N X S nn nm kd na nc ka kc ⟨hn,hk,hnn,htx,hr,hz,ht,hm⟩
  ·have h0:expn41 (pdOf pm) (⟨41,F,G,L,O,N,X,S,nn,nm,nk,kd⟩:PD)=false:=by unfold expn41;rw[decide_eq_false (show¬(⟨41,F,G,L,O,N,X,S,nn,nm,nk,kd⟩:PD).nk=2 from h)];rfl
   refine (ex41_no w np pm pa pc F G L O N X S nn nm nk kd na nc ka kc h ⟨hn,hk,hnn,htx,hr,hz,ht,hm⟩).mono ?_
   exact J23
 ·by_cases h:nk=1
  ·subst h
   exact ex42_1 w np pm pa pc F G L O N X S nn nm kd na nc ka kc ⟨hn,hk,hnn,htx,hr,hz,ht,hm⟩
  ·have h0:expn42 (pdOf pm) (⟨42,F,G,L,O,N,X,S,nn,nm,nk,kd⟩:PD)=false:=by unfold expn42;rw[decide_eq_false (show¬(⟨42,F,G,L,O,N,X,S,nn,nm,nk,kd⟩:PD).nk=1 from h)];rfl
   refine (ex42_no w np pm pa pc F G L O N X S nn nm nk kd na nc ka kc h ⟨hn,hk,hnn,htx,hr,hz,ht,hm⟩).mono ?_
   exact J23
 ·have h0:expnP (pdOf pm) (⟨kind,F,G,L,O,N,X,S,nn,nm,nk,kd⟩:PD)=false:=by
   have k20:¬kind=20:=Zf
   have k21:¬kind=21:=Zf
   have k22:¬kind=22:=Zf
   have k23:¬kind=23:=Zf
   have k24:¬kind=24:=Zf
   have k25:¬kind=25:=Zf
   have k26:¬kind=26:=Zf
   have k27:¬kind=27:=Zf
   have k28:¬kind=28:=Zf
   have k29:¬kind=29:=Zf
   have k30:¬kind=30:=Zf
   have k31:¬kind=31:=Zf
   have k32:¬kind=32:=Zf
   have k33:¬kind=33:=Zf
   have k34:¬kind=34:=Zf
   have k35:¬kind=35:=Zf
   have k36:¬kind=36:=Zf
   have k37:¬kind=37:=Zf
   have k40:¬kind=40:=Zf
   have k41:¬kind=41:=Zf
   have k42:¬kind=42:=Zf
   unfold expnP;simp only[k20,k21,k22,k23,k24,k25,k26,k27,k28,k29,k30,k31,k32,k33,k34,k35,k36,k37,k40,k41,k42,if_false]
  refine (exNo w np pa pc kind F G L O N X S nn nk na nc ka kc hno).mono ?_
  exact J23
end Go.Proofs.YtlibofjbhhdjdaaGreat
