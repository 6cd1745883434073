import Derived.Test.YtlibofjbhhdjdaaGreatQ
import Derived.Test.YtlibofjbhhdjdaaGreatP47
set_option linter.unusedSimpArgs false
set_option maxRecDepth 100000
set_option maxHeartbeats 16000000
namespace Go.Proofs.YtlibofjbhhdjdaaGreat
open Go.RowKit
variable {i k np:Nat} {f:Nat->Bool} {q:Nat->Option PX} {pd:Nat->PD} {d:PD}
theorem row_5 (h:Kin pd d i q):(usesP d false true false false false&&(targetsR d d.nk q))=(kidsIn d i&&stmt5 pd d):=by
 rw[uses_bare,kidsIn_eq]
 unfold stmt5 targetsR
 by_cases c1:1<=d.num
 ·by_cases c2:d.num < d.nk
  ·rw[decide_eq_true c1,decide_eq_true c2]
   obtain ⟨t,ht⟩:∃t,d.num.toNat=t:=⟨_,rfl⟩
   have htn:t<=d.nk:=Zo
   rw[ht]
   have e1:standR 128 t q=(allB (inB d i) 0 t&&allB (fun j=>targetP (kidP pd d j)) 0 t):=by
    unfold standR;simp only[h.h128];exact allB_and _ _ _ _
   have e2:standR 8 (d.nk-t) (fun j=>q (t+j))=(allB (inB d i) t (d.nk-t)&&allB (fun j=>exprP (kidP pd d j)) t (d.nk-t)):=by
    unfold standR;simp only[h.h8]
    rw[allB_shift (fun j=>inB d i j&&cls8 (kidP pd d j)) (d.nk-t) 0 t]
    exact allB_and _ _ _ _
   have e3:allB (inB d i) 0 d.nk=(allB (inB d i) 0 t&&allB (inB d i) t (d.nk-t)):=by
    have:=allB_parts (inB d i) t (d.nk-t) 0
    rw[show t+(d.nk-t)=d.nk by omega,Nat.zero_add] at this
    exact this
   have e4:exprsP pd d t d.nk=allB (fun j=>exprP (kidP pd d j)) t (d.nk-t):=rfl
   rw[e1,e2,e3,e4]
   generalize allB (inB d i) 0 t=a1
   generalize allB (inB d i) t (d.nk-t)=a2
   generalize allB (fun j=>targetP (kidP pd d j)) 0 t=a3
   generalize allB (fun j=>exprP (kidP pd d j)) t (d.nk-t)=a4
   generalize bareP d false true false false=a5
   revert a1 a2 a3 a4 a5
   decide
  ·rw[decide_eq_false c2];simp
 ·rw[decide_eq_false c1];simp
theorem row_34 (h:Kin pd d i q):(usesP d false false false false false&&(decide ((1:Int)<=d.nk)&&(standR 16 1 q&&standR 8 (d.nk-1) (fun i=>q (1+i)))))=(kidsIn d i&&expn34 pd d):=by
 rw[uses_bare,kidsIn_eq]
 unfold expn34
 rw[exprsN]
 by_cases c1:0 < d.nk
 ·obtain ⟨n,hn⟩:∃n,d.nk=n+1:=⟨d.nk-1,by omega⟩
  rw[decide_eq_true c1,decide_eq_true (show (1:Int)<=d.nk by omega)]
  have e1:standR 16 1 q=(inB d i 0&&cls16 (kidP pd d 0)):=by
   unfold standR;simp only[h.h16,allB,Bool.and_true]
  have e2:standR 8 (d.nk-1) (fun j=>q (1+j))=(allB (inB d i) 1 n&&allB (fun j=>exprP (kidP pd d j)) 1 n):=by
   rw[hn,Nat.add_sub_cancel]
   unfold standR;simp only[h.h8]
   rw[allB_shift (fun j=>inB d i j&&cls8 (kidP pd d j)) n 0 1]
   exact allB_and _ _ _ _
  have e3:allB (inB d i) 0 d.nk=(inB d i 0&&allB (inB d i) 1 n):=by rw[hn];rfl
  have e4:allB (fun j=>exprP (kidP pd d j)) 0 d.nk=(exprP (kidP pd d 0)&&allB (fun j=>exprP (kidP pd d j)) 1 n):=by rw[hn];rfl
  have e5:cls16 (kidP pd d 0)=(exprP (kidP pd d 0)&&!(kidP pd d 0==27)):=rfl
  rw[e1,e2,e3,e4,e5]
  generalize inB d i 0=a1
  generalize allB (inB d i) 1 n=a2
  generalize exprP (kidP pd d 0)=a3
  generalize allB (fun j=>exprP (kidP pd d j)) 1 n=a4
  generalize (kidP pd d 0==27)=a5
  generalize bareP d false false false false=a6
  revert a1 a2 a3 a4 a5 a6
  decide
 ·rw[decide_eq_false c1,decide_eq_false (show¬(1:Int)<=d.nk by omega)];simp
theorem shape_eq (h:Kin pd d i q)(hs:slimP d):(rowS d.kind d d.nk q||(rowE d.kind d d.nk q||rowN d.kind d d.nk q))=(kidsIn d i&&shapeP pd d):=by
 unfold shapeP
 rcases kinds_all d.kind with hk|hk|hk|hk|hk|hk|hk|hk|hk|hk|hk|hk|hk|hk|hk|hk|hk|hk|hk|hk|hk|hk|hk|hk|hk|hk|hk|hk|hk|hk|hk|hk|hk|hk|hk|hk|hk|⟨_,_,h3⟩
 ·have e1:rowS d.kind d d.nk q=(usesP d false false false false false&&(standR 1 d.nk q)):=Zk
  have e2:rowE d.kind d d.nk q=(false):=Zk
  have e3:rowN d.kind d d.nk q=(false):=Zk
  have e4:statP d.kind=true:=Zk
  have e5:stmtP pd d=stmt1 pd d:=Zl
  rw[e1,e2,e3,e4]
  simp only[cond_true]
  rw[e5,<-row_1 h hs]
  simp
 ·have e1:rowS d.kind d d.nk q=(declP d 1 200&&(standR 8 d.nk q)):=Zk
  have e2:rowE d.kind d d.nk q=(false):=Zk
  have e3:rowN d.kind d d.nk q=(false):=Zk
  have e4:statP d.kind=true:=Zk
  have e5:stmtP pd d=stmt2 pd d:=Zl
  rw[e1,e2,e3,e4]
  simp only[cond_true]
  rw[e5,<-row_2 h hs]
  simp
 ·have e1:rowS d.kind d d.nk q=(declP d 1 1&&(kidsR [8] d.nk q)):=Zk
  have e2:rowE d.kind d d.nk q=(false):=Zk
  have e3:rowN d.kind d d.nk q=(false):=Zk
  have e4:statP d.kind=true:=Zk
  have e5:stmtP pd d=stmt3 pd d:=Zl
  rw[e1,e2,e3,e4]
  simp only[cond_true]
  rw[e5,<-row_3 h hs]
  simp
 ·have e1:rowS d.kind d d.nk q=(declP d 1 1&&(kidsR [256] d.nk q)):=Zk
  have e2:rowE d.kind d d.nk q=(false):=Zk
  have e3:rowN d.kind d d.nk q=(false):=Zk
  have e4:statP d.kind=true:=Zk
  have e5:stmtP pd d=stmt4 pd d:=Zl
  rw[e1,e2,e3,e4]
  simp only[cond_true]
  rw[e5,<-row_4 h hs]
  simp
 ·have e1:rowS d.kind d d.nk q=(usesP d false true false false false&&(targetsR d d.nk q)):=Zk
  have e2:rowE d.kind d d.nk q=(false):=Zk
  have e3:rowN d.kind d d.nk q=(false):=Zk
  have e4:statP d.kind=true:=Zk
  have e5:stmtP pd d=stmt5 pd d:=Zl
  rw[e1,e2,e3,e4]
  simp only[cond_true]
  rw[e5,<-row_5 h]
  simp
 ·have e1:rowS d.kind d d.nk q=(usesP d false false false false false&&(kidsR [32] d.nk q)):=Zk
  have e2:rowE d.kind d d.nk q=(false):=Zk
  have e3:rowN d.kind d d.nk q=(false):=Zk
  have e4:statP d.kind=true:=Zk
  have e5:stmtP pd d=stmt6 pd d:=Zl
  rw[e1,e2,e3,e4]
  simp only[cond_true]
  rw[e5,<-row_6 h hs]
  simp
 ·have e1:rowS d.kind d d.nk q=(usesP d false false false false false&&(kidsR [32] d.nk q)):=Zk
  have e2:rowE d.kind d d.nk q=(false):=Zk
  have e3:rowN d.kind d d.nk q=(false):=Zk
  have e4:statP d.kind=true:=Zk
  have e5:stmtP pd d=stmt16 pd d:=Zl
  rw[e1,e2,e3,e4]
  simp only[cond_true]
  rw[e5,<-row_16 h hs]
  simp
 ·have e1:rowS d.kind d d.nk q=(usesP d false false false false false&&((kidsR [8,2] d.nk q||kidsR [8,2,4] d.nk q))):=Zk
  have e2:rowE d.kind d d.nk q=(false):=Zk
  have e3:rowN d.kind d d.nk q=(false):=Zk
  have e4:statP d.kind=true:=Zk
  have e5:stmtP pd d=stmt7 pd d:=Zl
  rw[e1,e2,e3,e4]
  simp only[cond_true]
  rw[e5,<-row_7 h hs]
  simp
 ·have e1:rowS d.kind d d.nk q=(usesP d false false false false false&&(kidsR [8,2] d.nk q)):=Zk
  have e2:rowE d.kind d d.nk q=(false):=Zk
  have e3:rowN d.kind d d.nk q=(false):=Zk
  have e4:statP d.kind=true:=Zk
  have e5:stmtP pd d=stmt8 pd d:=Zl
  rw[e1,e2,e3,e4]
  simp only[cond_true]
  rw[e5,<-row_8 h hs]
  simp
 ·have e1:rowS d.kind d d.nk q=(declP d 1 1&&((kidsR [8,8,2] d.nk q||kidsR [8,8,8,2] d.nk q))):=Zk
  have e2:rowE d.kind d d.nk q=(false):=Zk
  have e3:rowN d.kind d d.nk q=(false):=Zk
  have e4:statP d.kind=true:=Zk
  have e5:stmtP pd d=stmt9 pd d:=Zl
  rw[e1,e2,e3,e4]
  simp only[cond_true]
  rw[e5,<-row_9 h hs]
  simp
 ·have e1:rowS d.kind d d.nk q=(declP d 1 200&&(kidsR [8,2] d.nk q)):=Zk
  have e2:rowE d.kind d d.nk q=(false):=Zk
  have e3:rowN d.kind d d.nk q=(false):=Zk
  have e4:statP d.kind=true:=Zk
  have e5:stmtP pd d=stmt10 pd d:=Zl
  rw[e1,e2,e3,e4]
  simp only[cond_true]
  rw[e5,<-row_10 h hs]
  simp
 ·have e1:rowS d.kind d d.nk q=(usesP d false false false false false&&(kidsR [] d.nk q)):=Zk
  have e2:rowE d.kind d d.nk q=(false):=Zk
  have e3:rowN d.kind d d.nk q=(false):=Zk
  have e4:statP d.kind=true:=Zk
  have e5:stmtP pd d=stmt11 pd d:=Zl
  rw[e1,e2,e3,e4]
  simp only[cond_true]
  rw[e5,<-row_11 h hs]
  simp
 ·have e1:rowS d.kind d d.nk q=(usesP d false false false false false&&(kidsR [] d.nk q)):=Zk
  have e2:rowE d.kind d d.nk q=(false):=Zk
  have e3:rowN d.kind d d.nk q=(false):=Zk
  have e4:statP d.kind=true:=Zk
  have e5:stmtP pd d=stmt12 pd d:=Zl
  rw[e1,e2,e3,e4]
  simp only[cond_true]
  rw[e5,<-row_12 h hs]
  simp
 ·have e1:rowS d.kind d d.nk q=(usesP d false false false false false&&(standR 8 d.nk q)):=Zk
  have e2:rowE d.kind d d.nk q=(false):=Zk
  have e3:rowN d.kind d d.nk q=(false):=Zk
  have e4:statP d.kind=true:=Zk
  have e5:stmtP pd d=stmt13 pd d:=Zl
  rw[e1,e2,e3,e4]
  simp only[cond_true]
  rw[e5,<-row_13 h hs]
  simp
 ·have e1:rowS d.kind d d.nk q=(declP d 1 2&&(kidsR [2,2] d.nk q)):=Zk
  have e2:rowE d.kind d d.nk q=(false):=Zk
  have e3:rowN d.kind d d.nk q=(false):=Zk
  have e4:statP d.kind=true:=Zk
  have e5:stmtP pd d=stmt14 pd d:=Zl
  rw[e1,e2,e3,e4]
  simp only[cond_true]
  rw[e5,<-row_14 h hs]
  simp
 ·have e1:rowS d.kind d d.nk q=(usesP d false false false false false&&(kidsR [8] d.nk q)):=Zk
  have e2:rowE d.kind d d.nk q=(false):=Zk
  have e3:rowN d.kind d d.nk q=(false):=Zk
  have e4:statP d.kind=true:=Zk
  have e5:stmtP pd d=stmt15 pd d:=Zl
  rw[e1,e2,e3,e4]
  simp only[cond_true]
  rw[e5,<-row_15 h hs]
  simp
 ·have e1:rowS d.kind d d.nk q=(false):=Zk
  have e2:rowE d.kind d d.nk q=(usesP d false false false false false&&(kidsR [] d.nk q)):=Zk
  have e3:rowN d.kind d d.nk q=(false):=Zk
  have e4:statP d.kind=false:=Zk
  have e5:expnP pd d=expn20 pd d:=Zg
  rw[e1,e2,e3,e4]
  simp only[cond_false]
  rw[e5,<-row_20 h hs]
  simp
 ·have e1:rowS d.kind d d.nk q=(false):=Zk
  have e2:rowE d.kind d d.nk q=(usesP d false false false false false&&(kidsR [] d.nk q)):=Zk
  have e3:rowN d.kind d d.nk q=(false):=Zk
  have e4:statP d.kind=false:=Zk
  have e5:expnP pd d=expn21 pd d:=Zg
  rw[e1,e2,e3,e4]
  simp only[cond_false]
  rw[e5,<-row_21 h hs]
  simp
 ·have e1:rowS d.kind d d.nk q=(false):=Zk
  have e2:rowE d.kind d d.nk q=(usesP d false false false false false&&(kidsR [] d.nk q)):=Zk
  have e3:rowN d.kind d d.nk q=(false):=Zk
  have e4:statP d.kind=false:=Zk
  have e5:expnP pd d=expn22 pd d:=Zg
  rw[e1,e2,e3,e4]
  simp only[cond_false]
  rw[e5,<-row_22 h hs]
  simp
 ·have e1:rowS d.kind d d.nk q=(false):=Zk
  have e2:rowE d.kind d d.nk q=(usesP d false true false false false&&(kidsR [] d.nk q)):=Zk
  have e3:rowN d.kind d d.nk q=(false):=Zk
  have e4:statP d.kind=false:=Zk
  have e5:expnP pd d=expn23 pd d:=Zg
  rw[e1,e2,e3,e4]
  simp only[cond_false]
  rw[e5,<-row_23 h hs]
  simp
 ·have e1:rowS d.kind d d.nk q=(false):=Zk
  have e2:rowE d.kind d d.nk q=(usesP d false false true false false&&(fnum d.flt&&(kidsR [] d.nk q))):=Zk
  have e3:rowN d.kind d d.nk q=(false):=Zk
  have e4:statP d.kind=false:=Zk
  have e5:expnP pd d=expn24 pd d:=Zg
  rw[e1,e2,e3,e4]
  simp only[cond_false]
  rw[e5,<-row_24 h hs]
  simp
 ·have e1:rowS d.kind d d.nk q=(false):=Zk
  have e2:rowE d.kind d d.nk q=(usesP d false false false true false&&(decide ((d.text.size:Int)<=4000)&&(kidsR [] d.nk q))):=Zk
  have e3:rowN d.kind d d.nk q=(false):=Zk
  have e4:statP d.kind=false:=Zk
  have e5:expnP pd d=expn25 pd d:=Zg
  rw[e1,e2,e3,e4]
  simp only[cond_false]
  rw[e5,<-row_25 h hs]
  simp
 ·have e1:rowS d.kind d d.nk q=(false):=Zk
  have e2:rowE d.kind d d.nk q=(usesP d false false false true false&&(nameB d.text&&(kidsR [] d.nk q))):=Zk
  have e3:rowN d.kind d d.nk q=(false):=Zk
  have e4:statP d.kind=false:=Zk
  have e5:expnP pd d=expn26 pd d:=Zg
  rw[e1,e2,e3,e4]
  simp only[cond_false]
  rw[e5,<-row_26 h hs]
  simp
 ·have e1:rowS d.kind d d.nk q=(false):=Zk
  have e2:rowE d.kind d d.nk q=(usesP d false false false false false&&(kidsR [] d.nk q)):=Zk
  have e3:rowN d.kind d d.nk q=(false):=Zk
  have e4:statP d.kind=false:=Zk
  have e5:expnP pd d=expn27 pd d:=Zg
  rw[e1,e2,e3,e4]
  simp only[cond_false]
  rw[e5,<-row_27 h hs]
  simp
 ·have e1:rowS d.kind d d.nk q=(false):=Zk
  have e2:rowE d.kind d d.nk q=(usesP d false false false false false&&(kidsR [8,8] d.nk q)):=Zk
  have e3:rowN d.kind d d.nk q=(false):=Zk
  have e4:statP d.kind=false:=Zk
  have e5:expnP pd d=expn28 pd d:=Zg
  rw[e1,e2,e3,e4]
  simp only[cond_false]
  rw[e5,<-row_28 h hs]
  simp
 ·have e1:rowS d.kind d d.nk q=(false):=Zk
  have e2:rowE d.kind d d.nk q=(usesP d false false false false false&&(kidsR [8,8] d.nk q)):=Zk
  have e3:rowN d.kind d d.nk q=(false):=Zk
  have e4:statP d.kind=false:=Zk
  have e5:expnP pd d=expn29 pd d:=Zg
  rw[e1,e2,e3,e4]
  simp only[cond_false]
  rw[e5,<-row_29 h hs]
  simp
 ·have e1:rowS d.kind d d.nk q=(false):=Zk
  have e2:rowE d.kind d d.nk q=(usesP d true false false false false&&(decide ((19:Int)<=d.op)&&(decide (d.op<=22)&&(kidsR [8] d.nk q)))):=Zk
  have e3:rowN d.kind d d.nk q=(false):=Zk
  have e4:statP d.kind=false:=Zk
  have e5:expnP pd d=expn30 pd d:=Zg
  rw[e1,e2,e3,e4]
  simp only[cond_false]
  rw[e5,<-row_30 h hs]
  simp
 ·have e1:rowS d.kind d d.nk q=(false):=Zk
  have e2:rowE d.kind d d.nk q=(usesP d true false false false false&&(decide ((1:Int)<=d.op)&&(decide (d.op<=18)&&(kidsR [8,8] d.nk q)))):=Zk
  have e3:rowN d.kind d d.nk q=(false):=Zk
  have e4:statP d.kind=false:=Zk
  have e5:expnP pd d=expn31 pd d:=Zg
  rw[e1,e2,e3,e4]
  simp only[cond_false]
  rw[e5,<-row_31 h hs]
  simp
 ·have e1:rowS d.kind d d.nk q=(false):=Zk
  have e2:rowE d.kind d d.nk q=(usesP d false false false false false&&(kidsR [16,8] d.nk q)):=Zk
  have e3:rowN d.kind d d.nk q=(false):=Zk
  have e4:statP d.kind=false:=Zk
  have e5:expnP pd d=expn32 pd d:=Zg
  rw[e1,e2,e3,e4]
  simp only[cond_false]
  rw[e5,<-row_32 h hs]
  simp
 ·have e1:rowS d.kind d d.nk q=(false):=Zk
  have e2:rowE d.kind d d.nk q=(usesP d false false false true false&&(nameB d.text&&(kidsR [16] d.nk q))):=Zk
  have e3:rowN d.kind d d.nk q=(false):=Zk
  have e4:statP d.kind=false:=Zk
  have e5:expnP pd d=expn33 pd d:=Zg
  rw[e1,e2,e3,e4]
  simp only[cond_false]
  rw[e5,<-row_33 h hs]
  simp
 ·have e1:rowS d.kind d d.nk q=(false):=Zk
  have e2:rowE d.kind d d.nk q=(usesP d false false false false false&&((decide ((1:Int)<=d.nk)&&(standR 16 1 q&&standR 8 (d.nk-1) (fun i=>q (1+i)))))):=Zk
  have e3:rowN d.kind d d.nk q=(false):=Zk
  have e4:statP d.kind=false:=Zk
  have e5:expnP pd d=expn34 pd d:=Zg
  rw[e1,e2,e3,e4]
  simp only[cond_false]
  rw[e5,<-row_34 h]
  simp
 ·have e1:rowS d.kind d d.nk q=(false):=Zk
  have e2:rowE d.kind d d.nk q=(usesP d false false false false false&&(standR 512 d.nk q)):=Zk
  have e3:rowN d.kind d d.nk q=(false):=Zk
  have e4:statP d.kind=false:=Zk
  have e5:expnP pd d=expn35 pd d:=Zg
  rw[e1,e2,e3,e4]
  simp only[cond_false]
  rw[e5,<-row_35 h hs]
  simp
 ·have e1:rowS d.kind d d.nk q=(false):=Zk
  have e2:rowE d.kind d d.nk q=(usesP d true false false false true&&((d.op==0||d.op==1)&&(allB (fun i=>nameB (d.nm i)) 0 d.nn&&(kidsR [2] d.nk q)))):=Zk
  have e3:rowN d.kind d d.nk q=(false):=Zk
  have e4:statP d.kind=false:=Zk
  have e5:expnP pd d=expn36 pd d:=Zg
  rw[e1,e2,e3,e4]
  simp only[cond_false]
  rw[e5,<-row_36 h hs]
  simp
 ·have e1:rowS d.kind d d.nk q=(false):=Zk
  have e2:rowE d.kind d d.nk q=(usesP d false false false false false&&(kidsR [64] d.nk q)):=Zk
  have e3:rowN d.kind d d.nk q=(false):=Zk
  have e4:statP d.kind=false:=Zk
  have e5:expnP pd d=expn37 pd d:=Zg
  rw[e1,e2,e3,e4]
  simp only[cond_false]
  rw[e5,<-row_37 h hs]
  simp
 ·have e1:rowS d.kind d d.nk q=(false):=Zk
  have e2:rowE d.kind d d.nk q=(false):=Zk
  have e3:rowN d.kind d d.nk q=(usesP d false false false false false&&(kidsR [8] d.nk q)):=Zk
  have e4:statP d.kind=false:=Zk
  have e5:expnP pd d=expn40 pd d:=Zg
  rw[e1,e2,e3,e4]
  simp only[cond_false]
  rw[e5,<-row_40 h hs]
  simp
 ·have e1:rowS d.kind d d.nk q=(false):=Zk
  have e2:rowE d.kind d d.nk q=(false):=Zk
  have e3:rowN d.kind d d.nk q=(usesP d false false false false false&&(kidsR [8,8] d.nk q)):=Zk
  have e4:statP d.kind=false:=Zk
  have e5:expnP pd d=expn41 pd d:=Zg
  rw[e1,e2,e3,e4]
  simp only[cond_false]
  rw[e5,<-row_41 h hs]
  simp
 ·have e1:rowS d.kind d d.nk q=(false):=Zk
  have e2:rowE d.kind d d.nk q=(false):=Zk
  have e3:rowN d.kind d d.nk q=(usesP d false false false true false&&(nameB d.text&&(kidsR [8] d.nk q))):=Zk
  have e4:statP d.kind=false:=Zk
  have e5:expnP pd d=expn42 pd d:=Zg
  rw[e1,e2,e3,e4]
  simp only[cond_false]
  rw[e5,<-row_42 h hs]
  simp
 ·obtain ⟨e1,e2,e3,e4,e5,e6,e16,e7,e8,e9,e10,e11,e12,e13,e14,e15,e20,e21,e22,e23,e24,e25,e26,e27,e28,e29,e30,e31,e32,e33,e34,e35,e36,e37,e40,e41,e42⟩:=h3
  have f1:rowS d.kind d d.nk q=false:=by unfold rowS;rw[if_neg e1,if_neg e2,if_neg e3,if_neg e4,if_neg e5,if_neg e6,if_neg e16,if_neg e7,if_neg e8,if_neg e9,if_neg e10,if_neg e11,if_neg e12,if_neg e13,if_neg e14,if_neg e15]
  have f2:rowE d.kind d d.nk q=false:=by unfold rowE;rw[if_neg e20,if_neg e21,if_neg e22,if_neg e23,if_neg e24,if_neg e25,if_neg e26,if_neg e27,if_neg e28,if_neg e29,if_neg e30,if_neg e31,if_neg e32,if_neg e33,if_neg e34,if_neg e35,if_neg e36,if_neg e37]
  have f3:rowN d.kind d d.nk q=false:=by unfold rowN;rw[if_neg e40,if_neg e41,if_neg e42]
  have f4:statP d.kind=false:=by
   rw[<-Bool.not_eq_true];simp[statP];omega
  have f5:expnP pd d=false:=by unfold expnP;rw[if_neg e20,if_neg e21,if_neg e22,if_neg e23,if_neg e24,if_neg e25,if_neg e26,if_neg e27,if_neg e28,if_neg e29,if_neg e30,if_neg e31,if_neg e32,if_neg e33,if_neg e34,if_neg e35,if_neg e36,if_neg e37,if_neg e40,if_neg e41,if_neg e42]
  rw[f1,f2,f3,f4,f5]
  simp
theorem nn_1 (h:stmt1 pd d=true):d.nn<=200:=by
 unfold stmt1 at h
 grind [bareP,namedP]
theorem nn_2 (h:stmt2 pd d=true):d.nn<=200:=by
 unfold stmt2 at h
 grind [bareP,namedP]
theorem nn_3 (h:stmt3 pd d=true):d.nn<=200:=by
 unfold stmt3 at h
 grind [bareP,namedP]
theorem nn_4 (h:stmt4 pd d=true):d.nn<=200:=by
 unfold stmt4 at h
 grind [bareP,namedP]
theorem nn_5 (h:stmt5 pd d=true):d.nn<=200:=by
 unfold stmt5 at h
 grind [bareP,namedP]
theorem nn_6 (h:stmt6 pd d=true):d.nn<=200:=by
 unfold stmt6 at h
 grind [bareP,namedP]
theorem nn_16 (h:stmt16 pd d=true):d.nn<=200:=by
 unfold stmt16 at h
 grind [bareP,namedP]
theorem nn_7 (h:stmt7 pd d=true):d.nn<=200:=by
 unfold stmt7 at h
 grind [bareP,namedP]
theorem nn_8 (h:stmt8 pd d=true):d.nn<=200:=by
 unfold stmt8 at h
 grind [bareP,namedP]
theorem nn_9 (h:stmt9 pd d=true):d.nn<=200:=by
 unfold stmt9 at h
 grind [bareP,namedP]
theorem nn_10 (h:stmt10 pd d=true):d.nn<=200:=by
 unfold stmt10 at h
 grind [bareP,namedP]
theorem nn_11 (h:stmt11 pd d=true):d.nn<=200:=by
 unfold stmt11 at h
 grind [bareP,namedP]
theorem nn_12 (h:stmt12 pd d=true):d.nn<=200:=by
 unfold stmt12 at h
 grind [bareP,namedP]
theorem nn_13 (h:stmt13 pd d=true):d.nn<=200:=by
 unfold stmt13 at h
 grind [bareP,namedP]
theorem nn_14 (h:stmt14 pd d=true):d.nn<=200:=by
 unfold stmt14 at h
 grind [bareP,namedP]
theorem nn_15 (h:stmt15 pd d=true):d.nn<=200:=by
 unfold stmt15 at h
 grind [bareP,namedP]
theorem nn_20 (h:expn20 pd d=true):d.nn<=200:=by
 unfold expn20 at h
 grind [bareP,namedP]
theorem nn_21 (h:expn21 pd d=true):d.nn<=200:=by
 unfold expn21 at h
 grind [bareP,namedP]
theorem nn_22 (h:expn22 pd d=true):d.nn<=200:=by
 unfold expn22 at h
 grind [bareP,namedP]
theorem nn_23 (h:expn23 pd d=true):d.nn<=200:=by
 unfold expn23 at h
 grind [bareP,namedP]
theorem nn_24 (h:expn24 pd d=true):d.nn<=200:=by
 unfold expn24 at h
 grind [bareP,namedP]
theorem nn_25 (h:expn25 pd d=true):d.nn<=200:=by
 unfold expn25 at h
 grind [bareP,namedP]
theorem nn_26 (h:expn26 pd d=true):d.nn<=200:=by
 unfold expn26 at h
 grind [bareP,namedP]
theorem nn_27 (h:expn27 pd d=true):d.nn<=200:=by
 unfold expn27 at h
 grind [bareP,namedP]
theorem nn_28 (h:expn28 pd d=true):d.nn<=200:=by
 unfold expn28 at h
 grind [bareP,namedP]
theorem nn_29 (h:expn29 pd d=true):d.nn<=200:=by
 unfold expn29 at h
 grind [bareP,namedP]
theorem nn_30 (h:expn30 pd d=true):d.nn<=200:=by
 unfold expn30 at h
 grind [bareP,namedP]
theorem nn_31 (h:expn31 pd d=true):d.nn<=200:=by
 unfold expn31 at h
 grind [bareP,namedP]
theorem nn_32 (h:expn32 pd d=true):d.nn<=200:=by
 unfold expn32 at h
 grind [bareP,namedP]
theorem nn_33 (h:expn33 pd d=true):d.nn<=200:=by
 unfold expn33 at h
 grind [bareP,namedP]
theorem nn_34 (h:expn34 pd d=true):d.nn<=200:=by
 unfold expn34 at h
 grind [bareP,namedP]
theorem nn_35 (h:expn35 pd d=true):d.nn<=200:=by
 unfold expn35 at h
 grind [bareP,namedP]
theorem nn_36 (h:expn36 pd d=true):d.nn<=200:=by
 unfold expn36 at h
 grind [bareP,namedP]
theorem nn_37 (h:expn37 pd d=true):d.nn<=200:=by
 unfold expn37 at h
 grind [bareP,namedP]
theorem nn_40 (h:expn40 pd d=true):d.nn<=200:=by
 unfold expn40 at h
 grind [bareP,namedP]
theorem nn_41 (h:expn41 pd d=true):d.nn<=200:=by
 unfold expn41 at h
 grind [bareP,namedP]
theorem nn_42 (h:expn42 pd d=true):d.nn<=200:=by
 unfold expn42 at h
 grind [bareP,namedP]
theorem shape_nn (h:shapeP pd d=true):d.nn<=200:=by
 unfold shapeP at h
 rcases kinds_all d.kind with hk|hk|hk|hk|hk|hk|hk|hk|hk|hk|hk|hk|hk|hk|hk|hk|hk|hk|hk|hk|hk|hk|hk|hk|hk|hk|hk|hk|hk|hk|hk|hk|hk|hk|hk|hk|hk|⟨_,_,h3⟩
 ·have e4:statP d.kind=true:=Zk
  have e5:stmtP pd d=stmt1 pd d:=Zl
  rw[e4] at h
  simp only[cond_true,e5] at h
  exact nn_1 h
 ·have e4:statP d.kind=true:=Zk
  have e5:stmtP pd d=stmt2 pd d:=Zl
  rw[e4] at h
  simp only[cond_true,e5] at h
  exact nn_2 h
 ·have e4:statP d.kind=true:=Zk
  have e5:stmtP pd d=stmt3 pd d:=Zl
  rw[e4] at h
  simp only[cond_true,e5] at h
  exact nn_3 h
 ·have e4:statP d.kind=true:=Zk
  have e5:stmtP pd d=stmt4 pd d:=Zl
  rw[e4] at h
  simp only[cond_true,e5] at h
  exact nn_4 h
 ·have e4:statP d.kind=true:=Zk
  have e5:stmtP pd d=stmt5 pd d:=Zl
  rw[e4] at h
  simp only[cond_true,e5] at h
  exact nn_5 h
 ·have e4:statP d.kind=true:=Zk
  have e5:stmtP pd d=stmt6 pd d:=Zl
  rw[e4] at h
  simp only[cond_true,e5] at h
  exact nn_6 h
 ·have e4:statP d.kind=true:=Zk
  have e5:stmtP pd d=stmt16 pd d:=Zl
  rw[e4] at h
  simp only[cond_true,e5] at h
  exact nn_16 h
 ·have e4:statP d.kind=true:=Zk
  have e5:stmtP pd d=stmt7 pd d:=Zl
  rw[e4] at h
  simp only[cond_true,e5] at h
  exact nn_7 h
 ·have e4:statP d.kind=true:=Zk
  have e5:stmtP pd d=stmt8 pd d:=Zl
  rw[e4] at h
  simp only[cond_true,e5] at h
  exact nn_8 h
 ·have e4:statP d.kind=true:=Zk
  have e5:stmtP pd d=stmt9 pd d:=Zl
  rw[e4] at h
  simp only[cond_true,e5] at h
  exact nn_9 h
 ·have e4:statP d.kind=true:=Zk
  have e5:stmtP pd d=stmt10 pd d:=Zl
  rw[e4] at h
  simp only[cond_true,e5] at h
  exact nn_10 h
 ·have e4:statP d.kind=true:=Zk
  have e5:stmtP pd d=stmt11 pd d:=Zl
  rw[e4] at h
  simp only[cond_true,e5] at h
  exact nn_11 h
 ·have e4:statP d.kind=true:=Zk
  have e5:stmtP pd d=stmt12 pd d:=Zl
  rw[e4] at h
  simp only[cond_true,e5] at h
  exact nn_12 h
 ·have e4:statP d.kind=true:=Zk
  have e5:stmtP pd d=stmt13 pd d:=Zl
  rw[e4] at h
  simp only[cond_true,e5] at h
  exact nn_13 h
 ·have e4:statP d.kind=true:=Zk
  have e5:stmtP pd d=stmt14 pd d:=Zl
  rw[e4] at h
  simp only[cond_true,e5] at h
  exact nn_14 h
 ·have e4:statP d.kind=true:=Zk
  have e5:stmtP pd d=stmt15 pd d:=Zl
  rw[e4] at h
  simp only[cond_true,e5] at h
  exact nn_15 h
 ·have e4:statP d.kind=false:=Zk
  have e5:expnP pd d=expn20 pd d:=Zg
  rw[e4] at h
  simp only[cond_false,e5] at h
  exact nn_20 h
 ·have e4:statP d.kind=false:=Zk
  have e5:expnP pd d=expn21 pd d:=Zg
  rw[e4] at h
  simp only[cond_false,e5] at h
  exact nn_21 h
 ·have e4:statP d.kind=false:=Zk
  have e5:expnP pd d=expn22 pd d:=Zg
  rw[e4] at h
  simp only[cond_false,e5] at h
  exact nn_22 h
 ·have e4:statP d.kind=false:=Zk
  have e5:expnP pd d=expn23 pd d:=Zg
  rw[e4] at h
  simp only[cond_false,e5] at h
  exact nn_23 h
 ·have e4:statP d.kind=false:=Zk
  have e5:expnP pd d=expn24 pd d:=Zg
  rw[e4] at h
  simp only[cond_false,e5] at h
  exact nn_24 h
 ·have e4:statP d.kind=false:=Zk
  have e5:expnP pd d=expn25 pd d:=Zg
  rw[e4] at h
  simp only[cond_false,e5] at h
  exact nn_25 h
 ·have e4:statP d.kind=false:=Zk
  have e5:expnP pd d=expn26 pd d:=Zg
  rw[e4] at h
  simp only[cond_false,e5] at h
  exact nn_26 h
 ·have e4:statP d.kind=false:=Zk
  have e5:expnP pd d=expn27 pd d:=Zg
  rw[e4] at h
  simp only[cond_false,e5] at h
  exact nn_27 h
 ·have e4:statP d.kind=false:=Zk
  have e5:expnP pd d=expn28 pd d:=Zg
  rw[e4] at h
  simp only[cond_false,e5] at h
  exact nn_28 h
 ·have e4:statP d.kind=false:=Zk
  have e5:expnP pd d=expn29 pd d:=Zg
  rw[e4] at h
  simp only[cond_false,e5] at h
  exact nn_29 h
 ·have e4:statP d.kind=false:=Zk
  have e5:expnP pd d=expn30 pd d:=Zg
  rw[e4] at h
  simp only[cond_false,e5] at h
  exact nn_30 h
 ·have e4:statP d.kind=false:=Zk
  have e5:expnP pd d=expn31 pd d:=Zg
  rw[e4] at h
  simp only[cond_false,e5] at h
  exact nn_31 h
 ·have e4:statP d.kind=false:=Zk
  have e5:expnP pd d=expn32 pd d:=Zg
  rw[e4] at h
  simp only[cond_false,e5] at h
  exact nn_32 h
 ·have e4:statP d.kind=false:=Zk
  have e5:expnP pd d=expn33 pd d:=Zg
  rw[e4] at h
  simp only[cond_false,e5] at h
  exact nn_33 h
 ·have e4:statP d.kind=false:=Zk
  have e5:expnP pd d=expn34 pd d:=Zg
  rw[e4] at h
  simp only[cond_false,e5] at h
  exact nn_34 h
 ·have e4:statP d.kind=false:=Zk
  have e5:expnP pd d=expn35 pd d:=Zg
  rw[e4] at h
  simp only[cond_false,e5] at h
  exact nn_35 h
 ·have e4:statP d.kind=false:=Zk
  have e5:expnP pd d=expn36 pd d:=Zg
  rw[e4] at h
  simp only[cond_false,e5] at h
  exact nn_36 h
 ·have e4:statP d.kind=false:=Zk
  have e5:expnP pd d=expn37 pd d:=Zg
  rw[e4] at h
  simp only[cond_false,e5] at h
  exact nn_37 h
 ·have e4:statP d.kind=false:=Zk
  have e5:expnP pd d=expn40 pd d:=Zg
  rw[e4] at h
  simp only[cond_false,e5] at h
  exact nn_40 h
 ·have e4:statP d.kind=false:=Zk
  have e5:expnP pd d=expn41 pd d:=Zg
  rw[e4] at h
  simp only[cond_false,e5] at h
  exact nn_41 h
 ·have e4:statP d.kind=false:=Zk
  have e5:expnP pd d=expn42 pd d:=Zg
  rw[e4] at h
  simp only[cond_false,e5] at h
  exact nn_42 h
 ·obtain ⟨e1,e2,e3,e4,e5,e6,e16,e7,e8,e9,e10,e11,e12,e13,e14,e15,e20,e21,e22,e23,e24,e25,e26,e27,e28,e29,e30,e31,e32,e33,e34,e35,e36,e37,e40,e41,e42⟩:=h3
  have f4:statP d.kind=false:=by
   rw[<-Bool.not_eq_true];simp[statP];omega
  have f5:expnP pd d=false:=by unfold expnP;rw[if_neg e20,if_neg e21,if_neg e22,if_neg e23,if_neg e24,if_neg e25,if_neg e26,if_neg e27,if_neg e28,if_neg e29,if_neg e30,if_neg e31,if_neg e32,if_neg e33,if_neg e34,if_neg e35,if_neg e36,if_neg e37,if_neg e40,if_neg e41,if_neg e42]
  rw[f4,f5] at h
  simp at h
theorem slim_of (h:nodeP pd d i=true):slimP d:=by
 unfold nodeP at h
 simp only[Bool.and_eq_true,decide_eq_true_eq] at h
 exact ⟨h.2.2.2.2.1,shape_nn h.2.2.2.2.2.2.2⟩
theorem place_eq (hs:slimP d)(x:Bool):(placeP d&&x)=(decide (0<=d.frm)&&(decide (d.frm<=d.tto)&&(decide (0<=d.line)&&(decide (d.line<=100000)&&(decide (d.nk<=200)&&(!(statP d.kind&&d.line==0)&&x)))))):=by
 have h1:=hs.1
 unfold placeP leastP
 rw[if_pos hs,decide_eq_true h1]
 cases hst:statP d.kind
 ·simp only[Bool.false_eq_true,if_false,Bool.false_and,Bool.not_false,Bool.true_and,Bool.and_assoc]
 ·simp only[if_true,Bool.true_and]
  have:decide (1<=d.line)=(decide (0<=d.line)&&!(d.line==0)):=by
   by_cases e:1<=d.line
   ·rw[decide_eq_true e,decide_eq_true (show 0<=d.line by omega),beq_false_of_ne (show d.line≠0 by omega)];rfl
   ·rw[decide_eq_false e]
    by_cases e2:0<=d.line
    ·rw[decide_eq_true e2,beq_iff_eq.mpr (show d.line=0 by omega)];rfl
    ·rw[decide_eq_false e2];rfl
  rw[this]
  generalize decide (0<=d.frm)=a1
  generalize decide (d.frm<=d.tto)=a2
  generalize decide (0<=d.line)=a3
  generalize (d.line==0)=a4
  generalize decide (d.line<=100000)=a5
  revert a1 a2 a3 a4 a5 x
  decide
theorem rowI_eq (pm:Nat->PM)(pk:Nat->Option Addr)(i:Nat)(hs:∀j,j < i->slimP (pm j).toPD):rowI pm pk i=nodeP (pdOf pm) (pdOf pm i) i:=by
 by_cases h:slimP (pm i).toPD
 ·have hkn:knP (pm i).toPD=(pm i).nk:=J311
  unfold rowI stB exB enB
  rw[if_pos h,if_pos h,if_pos h,hkn,shape_eq (kin_of pm pk (pm i).toPD i hs) h,place_eq h]
  rfl
 ·have e:rowI pm pk i=false:=by
   unfold rowI stB exB enB
   rw[if_neg h,if_neg h,if_neg h];simp
  rw[e]
  symm
  rw[<-Bool.not_eq_true]
  exact fun h2=>h (slim_of h2)
theorem firstBad_congr {f g:Nat->Bool}:∀n i,(∀k,i<=k->k < i+n->(∀j,i<=j->j < k->g j=true)->f k=g k)->firstBad f i n=firstBad g i n
 |0,_,_=>rfl
 |n+1,i,h=>by
  simp only[firstBad]
  have e:=h i (Nat.le_refl _) Zo (fun j h1 h2=>by omega)
  rw[e]
  cases hg:g i
  ·rfl
  ·simp only[cond_true]
   exact firstBad_congr n (i+1) fun k h1 h2 h3=>h k Zo Zo fun j h4 h5=>by
    by_cases e:j=i
    ·rw[e];exact hg
    ·exact h3 j Zo h5
theorem firstBad_none :∀n i,firstBad f i n=none->∀k,i<=k->k < i+n->f k=true
 |0,_,_,k,h1,h2=>by omega
 |n+1,i,h,k,h1,h2=>by
  simp only[firstBad] at h
  cases hf:f i
  ·rw[hf] at h;simp at h
  ·rw[hf] at h
   simp only[cond_true] at h
   by_cases e:k=i
   ·rw[e];exact hf
   ·exact firstBad_none n (i+1) h k Zo Zo
theorem rows_eq (pm:Nat->PM)(pk:Nat->Option Addr)(np:Nat):firstBad (rowI pm pk) 0 np=firstBad (fun i=>nodeP (pdOf pm) (pdOf pm i) i) 0 np:=
 firstBad_congr np 0 fun k _ _ h=>rowI_eq pm pk k fun j hj=>slim_of (h j (Nat.zero_le _) hj)
theorem sizesN_stable (pd:Nat->PD):∀i,k < i->sizesN pd i k=sizesN pd (k+1) k
 |0,h=>by omega
 |i+1,h=>by
  by_cases e:k=i
  ·subst e;rfl
  ·show (if k=i then _ else sizesN pd i k)=_
   rw[if_neg e];exact sizesN_stable pd i Zo
theorem begN_stable (pd:Nat->PD):∀i,k < i->begN pd i k=begN pd (k+1) k
 |0,h=>by omega
 |i+1,h=>by
  by_cases e:k=i
  ·subst e;rfl
  ·show (if k=i then _ else begN pd i k)=_
   rw[if_neg e];exact begN_stable pd i Zo
theorem down_eq {S B kd:Nat->Int}(hSB:∀k,k < i->S k=k+1-B k)(hB:∀k:Nat,0<=B k/\B k<=k):∀(j:Nat) (a:Int),(∀q,q < j->0<=kd q/\kd q < i)->downS S kd j a=downB B kd j a
 |0,_,_=>rfl
 |j+1,a,hk=>by
  obtain ⟨k0,k1⟩:=hk j Zo
  have e1:=hSB (kd j).toNat Zo
  have e2:=hB (kd j).toNat
  unfold downS downB
  have z:(S (kd j).toNat==0)=false:=beq_false_of_ne Zo
  rw[z]
  cases hc:(kd j==a-1)
  ·rfl
  ·simp only[Bool.not_false,Bool.and_true,cond_true]
   simp only[beq_iff_eq] at hc
   rw[show a-S (kd j).toNat=B (kd j).toNat by omega]
   exact down_eq hSB hB j _ fun q hq=>hk q Zo
theorem size_beg (hks:∀i,i < np->∀j,j < (pd i).nk->0<=(pd i).kd j/\(pd i).kd j < i):∀i,i<=np->(∀j,j < i->okB pd j=true)->∀k,k < i->sizesN pd i k=k+1-begN pd i k
 |0,_,_,k,hk=>by omega
 |i+1,hi,hok,k,hk=>by
  have ih:=size_beg hks i Zo (fun j hj=>hok j Zo)
  have hB:=begN_le (pd:=pd) (np:=np) (fun i hi j hj=>(hks i hi j hj).1) i Zo
  show (if k=i then _ else sizesN pd i k)=k+1-(if k=i then _ else begN pd i k)
  by_cases e:k=i
  ·rw[if_pos e,if_pos e,down_eq ih hB _ _ (hks i Zo)]
   have h1:=hok i Zo
   unfold okB at h1
   cases hd:downB (begN pd i) (pd i).kd (pd i).nk i
   ·rw[hd] at h1;simp at h1
   ·simp only[fromDown,Option.getD_some];omega
  ·rw[if_neg e,if_neg e];exact ih k Zo
theorem ok_size (hks:∀i,i < np->∀j,j < (pd i).nk->0<=(pd i).kd j/\(pd i).kd j < i)(hk:k < np)(hok:∀j,j < k->okB pd j=true):(!(sizesN pd np k==0))=okB pd k:=by
 have ih:=size_beg hks k Zo hok
 have hB:=begN_le (pd:=pd) (np:=np) (fun i hi j hj=>(hks i hi j hj).1) k Zo
 rw[sizesN_stable pd np hk]
 have e:sizesN pd (k+1) k=fromDown k (downS (sizesN pd k) (pd k).kd (pd k).nk k):=by
  show (if k=k then _ else _)=_
  rw[if_pos rfl]
 rw[e,down_eq ih hB _ _ (hks k hk)]
 unfold okB
 cases hd:downB (begN pd k) (pd k).kd (pd k).nk k with
 |none=>rfl
 |some r=>
  have:=downB_le hB _ _ _ (fun q hq=>(hks k hk q hq).1) Zo hd
  simp only[fromDown,Option.isSome_some,Bool.not_eq_true']
  exact beq_false_of_ne Zo
theorem order_eq {l:Nat}(hks:∀i,i < l+1->∀j,j < (pd i).nk->0<=(pd i).kd j/\(pd i).kd j < i)(R:Int×Int):
  after 3 (firstBad (fun i=>!(sizesN pd (l+1) i==0)) 0 (l+1)) (bif sizesN pd (l+1) (l+1-1)==((l+1:Nat):Int) then R else (3,((l+1:Nat):Int)-1))=after 3 (orderI pd (l+1)) R:=by
 rw[firstBad_congr (g:=okB pd) (l+1) 0 fun k _ h2 h3=>ok_size hks Zo fun j hj=>h3 j (Nat.zero_le _) hj]
 unfold orderI
 cases hf:firstBad (okB pd) 0 (l+1) with
 |some n=>rfl
 |none=>
  have hok:=firstBad_none _ _ hf
  have hs:=size_beg hks (l+1) (Nat.le_refl _) (fun j hj=>hok j (Nat.zero_le _) Zo) l Zo
  rw[show l+1-1=l by omega,hs]
  simp only[after]
  by_cases e:begN pd (l+1) l=0
  ·rw[beq_iff_eq.mpr (show (l:Int)+1-begN pd (l+1) l=((l+1:Nat):Int) by omega),beq_iff_eq.mpr e];rfl
  ·rw[beq_false_of_ne (show (l:Int)+1-begN pd (l+1) l≠((l+1:Nat):Int) by omega),beq_false_of_ne e]
   simp only[cond_false]
   rw[show ((l+1:Nat):Int)-1=(l:Int) by omega]
end Go.Proofs.YtlibofjbhhdjdaaGreat
