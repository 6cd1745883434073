import Derived.Test.YtlibofjbhhdjdaaGreatQ
import Derived.Test.YtlibofjbhhdjdaaGreatP20
import Derived.Test.YtlibofjbhhdjdaaGreatP14
import Derived.Test.YtlibofjbhhdjdaaGreatP17
import Derived.Test.YtlibofjbhhdjdaaGreatP18
import Derived.Test.YtlibofjbhhdjdaaGreatP16
import Derived.Test.YtlibofjbhhdjdaaGreatP15
import Derived.Test.YtlibofjbhhdjdaaGreatP19
import Derived.Test.YtlibofjbhhdjdaaGreatP26
set_option linter.unusedSimpArgs false
set_option maxRecDepth 100000
set_option maxHeartbeats 16000000
namespace Go.Proofs.YtlibofjbhhdjdaaGreat
open Go.RowKit
attribute [local go_sem] rsf
theorem stat_k3 {w0:World}{wp:Nat}{tv:Value}{FX:List SNm->Nat->CV->Prop}{sz:Nat->Nat}{np:Nat}{pm:Nat->PM}(tr:Tr w0 tv np pm sz){i:Nat}(hi:i < np)(hk:(pm i).kind=3)(hnk:(pm i).nk=1)(hnn:(pm i).nn=1)(fx:FixOk w0 wp tv np FX)(hex:ExprOk w0 wp tv (pdOf pm) FX sz ((pm i).kd 0).toNat):StatOk w0 wp tv (pdOf pm) FX sz i:=by
 intro w own V R B lp rs l s h hl hs hf hB hll hlp
 obtain ⟨pa,pc,pb,po,sa,sc',htv,ha,hpa,hpc,hv1,⟨c0,c1,c2,c3,c4,c5,c6,c7,c8,c9⟩,b0,b1,zc,zb,i0,i1,szi,nk2,nn2⟩:=stat_pre tr hi h hs
 have ⟨HH,HL,HS,HF,HT,HA,HTV,HP,HKK,HV1⟩:=hid10 h hl hs hf tr ha htv hpc hk hv1
 have ⟨k1,k2,k3,k4,k5,k6,k15,k13,k16,k7,k8,k9,k10,k11,k12,k14⟩:=kindsAt hk
 have HC:Hid _:=fun w own V R B lp rs l s=>constant_ws (w0:=w0) (wp:=wp) (tv:=tv) (FX:=FX) (sz:=sz) (np:=np) (pm:=pm) tr (i:=i) hi hk hnk hnn fx hex w own V R B lp rs l s
 clear hnk hnn fx hex
 clear h hl hs hf tr ha hpc htv hk hv1
 go_enter Tryz.func40,Tryz.ntmps40
 go_wp2_with fail
 have SD:Hid _:=Sd.start HH.out HL.out HS.out (PB (pm i) (pm i).ka (pm i).nk) #[.int .i64 0,.int .i64 (pm i).line,.int .i64 0,.int .i64 0,.float .f64 0,.string {data:= #[]},.slice none 0 0,.slice none 0 0]
 generalize (w.alloc (Obj.cells (PB (pm i) (pm i).ka (pm i).nk) 67)).alloc (Obj.cells #[.int .i64 0,.int .i64 (pm i).line,.int .i64 0,.int .i64 0,.float .f64 0,.string {data:= #[]},.slice none 0 0,.slice none 0 0] 97)=wK at*
 refine (HC.out _ own V R B lp rs l s SD.out.ws SD.out.len SD.out.at_ HF.out hB hll hlp).mono ?_
 rintro e w9 ⟨rfl,hp⟩
 obtain ⟨own7,V7,R7,s7,h7,⟨e7,e8⟩,_⟩:=SD.out.postS hp
 have S7:Hid _:=h7
 have E7:Hid _:=e7
 have E8:Hid _:=e8
 clear hp h7 e7 e8
 clear zc b0 zb b1 c0 c1 c2 c3 c4 c5 c6 c7 c8 c9
 go_wp2_with fail
 go_ret
 exact ⟨none,0,0,by omega,fun hne=>absurd HKK.out hne,rfl,own7,V7,R7,s7,S7.out.ws,S7.out.fr,S7.out.at_,S7.out.len.trans HL.out.symm,S7.out.mono,E7.out,E8.out,LRow.nil _ _ _⟩
end Go.Proofs.YtlibofjbhhdjdaaGreat
namespace Go.Proofs.YtlibofjbhhdjdaaGreat
open Go.RowKit
variable {i np:Nat} {sz:Nat->Nat} {pd:Nat->PD} {pm:Nat->PM} {d:PD} {w0:World}
def isS (k:Int):Prop:=1<=k/\k<=16
def isE (k:Int):Prop:=20<=k/\k<=37
def kk (pm:Nat->PM) (i q:Nat):Int:=(pm ((pm i).kd q).toNat).kind
structure ShapeAt (pm:Nat->PM) (i:Nat):Prop where
 block:(pm i).kind=1->∀q,q < (pm i).nk->isS (kk pm i q)
 exprs:((pm i).kind=2\/(pm i).kind=5\/(pm i).kind=6\/(pm i).kind=13\/(pm i).kind=15\/(pm i).kind=16\/(28<=(pm i).kind/\(pm i).kind<=32)\/(pm i).kind=34\/(pm i).kind=37)->∀q,q < (pm i).nk->isE (kk pm i q)
 set_:(pm i).kind=5->0 < (pm i).nk
 const:(pm i).kind=3->(pm i).nk=1/\(pm i).nn=1/\isE (kk pm i 0)
 sfn:(pm i).kind=4->(pm i).nk=1/\(pm i).nn=1/\kk pm i 0=36
 if_:(pm i).kind=7->isE (kk pm i 0)/\kk pm i 1=1/\((pm i).nk=2\/((pm i).nk=3/\(kk pm i 2=1\/kk pm i 2=7)))
 while_:(pm i).kind=8->(pm i).nk=2/\isE (kk pm i 0)/\kk pm i 1=1
 for_:(pm i).kind=9->((pm i).nk=3/\(∀q,q < 2->isE (kk pm i q))/\kk pm i 2=1)\/((pm i).nk=4/\(∀q,q < 3->isE (kk pm i q))/\kk pm i 3=1)
 each:(pm i).kind=10->(pm i).nk=2/\isE (kk pm i 0)/\kk pm i 1=1
 try_:(pm i).kind=14->(pm i).nk=2/\((pm i).nn=1\/(pm i).nn=2)/\kk pm i 0=1/\kk pm i 1=1
 lit:20<=(pm i).kind/\(pm i).kind<=25->(pm i).nk=0
 field:(pm i).kind=33->(pm i).nk=1/\isE (kk pm i 0)
 table:(pm i).kind=35->∀j,j < (pm i).nk->(((pm ((pm i).kd j).toNat).kind=40/\(pm ((pm i).kd j).toNat).nk=1)\/((pm ((pm i).kd j).toNat).kind=41/\(pm ((pm i).kd j).toNat).nk=2)\/((pm ((pm i).kd j).toNat).kind=42/\(pm ((pm i).kd j).toNat).nk=1))/\∀a,a < (pm ((pm i).kd j).toNat).nk->isE (kk pm ((pm i).kd j).toNat a)
 fn:(pm i).kind=36->(pm i).nk=1/\kk pm i 0=1
 leaf:(pm i).kind=11\/(pm i).kind=12\/(pm i).kind=26\/(pm i).kind=27->(pm i).nk=0
 entry:40<=(pm i).kind/\(pm i).kind<=42->∀q,q < (pm i).nk->isE (kk pm i q)
 known:isS (pm i).kind\/isE (pm i).kind\/(40<=(pm i).kind/\(pm i).kind<=42)
theorem all_ok {wp:Nat}{tv:Value}{FX:List SNm->Nat->CV->Prop}(tr:Tr w0 tv np pm sz)(sh:∀i,i < np->ShapeAt pm i)(cap:∀i,i < np->(pm i).nk<=(pm i).kc)(fx:FixOk w0 wp tv np FX):
  ∀i,i < np->(isS (pm i).kind->StatOk w0 wp tv (pdOf pm) FX sz i)/\(isE (pm i).kind->ExprOk w0 wp tv (pdOf pm) FX sz i)/\((pm i).kind=1->BlockOk w0 wp tv (pdOf pm) FX sz i):=by
 intro i
 induction i using Nat.strongRecOn with
 |ind i ih=>
  intro hi
  have S:=sh i hi
  have lt:∀q,q < (pm i).nk->((pm i).kd q).toNat < i:=fun q hq=>by have:=tr.kid i hi q hq;omega
  have kS:∀q,q < (pm i).nk->isS (kk pm i q)->StatOk w0 wp tv (pdOf pm) FX sz ((pm i).kd q).toNat:=fun q hq hs=>(ih _ (lt q hq) J323).1 hs
  have kE:∀q,q < (pm i).nk->isE (kk pm i q)->ExprOk w0 wp tv (pdOf pm) FX sz ((pm i).kd q).toNat:=fun q hq hs=>(ih _ (lt q hq) J323).2.1 hs
  have kB:∀q,q < (pm i).nk->kk pm i q=1->BlockOk w0 wp tv (pdOf pm) FX sz ((pm i).kd q).toNat:=fun q hq hs=>(ih _ (lt q hq) J323).2.2 hs
  have hb:(pm i).kind=1->BlockOk w0 wp tv (pdOf pm) FX sz i:=fun h=>block_ws tr hi h (fun j hj=>kS j hj (S.block h j hj))
  refine ⟨fun hs=>?_,fun he=>?_,hb⟩
  ·have:(pm i).kind=1\/(pm i).kind=2\/(pm i).kind=3\/(pm i).kind=4\/(pm i).kind=5\/(pm i).kind=6\/(pm i).kind=7\/(pm i).kind=8\/(pm i).kind=9\/(pm i).kind=10\/(pm i).kind=11\/(pm i).kind=12\/(pm i).kind=13\/(pm i).kind=14\/(pm i).kind=15\/(pm i).kind=16:=by unfold isS at hs;omega
   rcases this with h|h|h|h|h|h|h|h|h|h|h|h|h|h|h|h
   ·exact stat_k1 tr hi h (hb h)
   ·exact stat_k2 tr hi h (fun q hq=>kE q hq (S.exprs Zo q hq))
   ·obtain ⟨h1,h2,h3⟩:=S.const h
    exact stat_k3 tr hi h h1 h2 fx (kE 0 Zo h3)
   ·obtain ⟨h1,h2,h3⟩:=S.sfn h
    have l0:=lt 0 Zo
    have F:=(sh _ (show ((pm i).kd 0).toNat < np by omega)).fn h3
    have k0:=tr.kid _ (show ((pm i).kd 0).toNat < np by omega) 0 (by rw[F.1];omega)
    exact stat_k4 tr hi h h1 h2 (body_ws tr Zo h3 F.1 ((ih _ Zo Zo).2.2 F.2))
   ·exact stat_k5 tr hi h (S.set_ h) (fun q hq=>kE q hq (S.exprs Zo q hq))
   ·exact stat_k6 tr hi h (fun q hq=>kE q hq (S.exprs Zo q hq))
   ·obtain ⟨h1,h2,h3|⟨h3,h4⟩⟩:=S.if_ h
    ·exact stat_k7_2 tr hi h h3 fx (kE 0 Zo h1) (kB 1 Zo h2)
    ·refine stat_k7_3 tr hi h h3 fx (kE 0 Zo h1) (kB 1 Zo h2) ?_ (kS 2 Zo ?_)
     ·show kk pm i 2≠3
      omega
     ·unfold isS;omega
   ·obtain ⟨h1,h2,h3⟩:=S.while_ h
    exact stat_k8 tr hi h h1 (kE 0 Zo h2) (kB 1 Zo h3)
   ·rcases S.for_ h with ⟨h1,h2,h3⟩|⟨h1,h2,h3⟩
    ·exact stat_k9_3 tr hi h h1 (cap i hi) (fun q hq=>kE q Zo (h2 q hq)) (kB 2 Zo h3)
    ·exact stat_k9_4 tr hi h h1 (cap i hi) (fun q hq=>kE q Zo (h2 q hq)) (kB 3 Zo h3)
   ·obtain ⟨h1,h2,h3⟩:=S.each h
    exact stat_k10 tr hi h h1 (cap i hi) (fun q hq=>kE q Zo (by obtain rfl:q=0:=(by omega);exact h2)) (kB 1 Zo h3)
   ·exact stat_k11 tr hi h
   ·exact stat_k12 tr hi h
   ·exact stat_k13 tr hi h (fun q hq=>kE q hq (S.exprs Zo q hq))
   ·obtain ⟨h1,h2|h2,h3,h4⟩:=S.try_ h
    ·exact stat_k14_1 tr hi h h1 h2 (kB 0 Zo h3) (kB 1 Zo h4)
    ·exact stat_k14_2 tr hi h h1 h2 (kB 0 Zo h3) (kB 1 Zo h4)
   ·exact stat_k15 tr hi h (fun q hq=>kE q hq (S.exprs Zo q hq))
   ·exact stat_k16 tr hi h (fun q hq=>kE q hq (S.exprs Zo q hq))
  ·have:(20<=(pm i).kind/\(pm i).kind<=25)\/(pm i).kind=26\/(pm i).kind=27\/((28<=(pm i).kind/\(pm i).kind<=32)\/(pm i).kind=34\/(pm i).kind=37)\/(pm i).kind=33\/(pm i).kind=35\/(pm i).kind=36:=by unfold isE at he;omega
   rcases this with h|h|h|h|h|h|h
   ·exact expr_lit tr hi h (S.lit h)
   ·exact expr_name tr hi h
   ·exact expr_rest tr hi h
   ·exact expr_more tr hi h (fun q hq=>kE q hq (S.exprs Zo q hq))
   ·obtain ⟨h1,h2⟩:=S.field h
    exact expr_field tr hi h h1 (kE 0 Zo h2)
   ·refine expr_table tr hi h (table_ws tr hi (fun j hj=>(S.table h j hj).1) (fun j hj a ha=>?_))
    have l0:=lt j hj
    have k0:=tr.kid _ (show ((pm i).kd j).toNat < np by omega) a ha
    exact (ih _ Zo Zo).2.1 ((S.table h j hj).2 a ha)
   ·obtain ⟨h1,h2⟩:=S.fn h
    exact expr_fn tr hi h (body_ws tr hi h h1 (kB 0 Zo h2))
theorem allB_at {p:Nat->Bool}:∀{n s:Nat},allB p s n=true->∀j,s<=j->j < s+n->p j=true
 |0,_,_,j,h1,h2=>by omega
 |n+1,s,h,j,h1,h2=>by
  simp only[allB,Bool.and_eq_true] at h
  by_cases e:j=s
  ·rw[e];exact h.1
  ·exact allB_at h.2 j Zo Zo
theorem firstBad_no {f:Nat->Bool}:∀{n s:Nat},firstBad f s n=none->∀j,s<=j->j < s+n->f j=true
 |0,_,_,j,h1,h2=>by omega
 |n+1,s,h,j,h1,h2=>by
  simp only[firstBad] at h
  cases hf:f s
  ·rw[hf] at h;simp at h
  ·rw[hf] at h
   by_cases e:j=s
   ·rw[e];exact hf
   ·exact firstBad_no (by simpa using h) j Zo Zo
theorem bare_nn {o n t:Bool}(h:bareP d o n t false=true):d.nn=0:=by
 unfold bareP at h
 simp only[Bool.and_eq_true,Bool.false_or,beq_iff_eq] at h
 omega
theorem named_nn {a b:Nat}(h:namedP d a b=true):a<=d.nn/\d.nn<=b:=by
 unfold namedP at h
 simp only[Bool.and_eq_true,decide_eq_true_eq] at h
 exact h.1
theorem exprs_isE {i k:Nat}(h:exprsP (pdOf pm) (pdOf pm i) 0 k=true):∀q,q < k->isE (kk pm i q):=fun q hq=>by
 have:=allB_at h q (Nat.zero_le _) Zo
 simp only[exprP,Bool.and_eq_true,decide_eq_true_eq] at this
 exact this
theorem stmt_nn (h:stmtP pd d=true):d.nn<=200:=by
 unfold stmtP at h
 by_cases k1:d.kind=1
 ·rw[if_pos k1] at h
  simp only[stmt1,Bool.and_eq_true] at h
  have:=bare_nn h.2;omega
 rw[if_neg k1] at h
 by_cases k2:d.kind=2
 ·rw[if_pos k2] at h
  simp only[stmt2,Bool.and_eq_true] at h
  have:=named_nn h.2.1;omega
 rw[if_neg k2] at h
 by_cases k3:d.kind=3
 ·rw[if_pos k3] at h
  simp only[stmt3,Bool.and_eq_true,decide_eq_true_eq] at h
  have:=named_nn h.2.2.1;omega
 rw[if_neg k3] at h
 by_cases k4:d.kind=4
 ·rw[if_pos k4] at h
  simp only[stmt4,Bool.and_eq_true,decide_eq_true_eq] at h
  have:=named_nn h.2.2.1;omega
 rw[if_neg k4] at h
 by_cases k5:d.kind=5
 ·rw[if_pos k5] at h
  simp only[stmt5,Bool.and_eq_true,decide_eq_true_eq] at h
  have:=bare_nn h.2.2.1;omega
 rw[if_neg k5] at h
 by_cases k6:d.kind=6
 ·rw[if_pos k6] at h
  simp only[stmt6,Bool.and_eq_true,decide_eq_true_eq] at h
  have:=bare_nn h.2.1;omega
 rw[if_neg k6] at h
 by_cases k7:d.kind=7
 ·rw[if_pos k7] at h
  simp only[stmt7,Bool.and_eq_true,Bool.or_eq_true,decide_eq_true_eq] at h
  rcases h with h|h
  ·have:=bare_nn h.2.1;omega
  ·have:=bare_nn h.2.2.1;omega
 rw[if_neg k7] at h
 by_cases k8:d.kind=8
 ·rw[if_pos k8] at h
  simp only[stmt8,Bool.and_eq_true,decide_eq_true_eq] at h
  have:=bare_nn h.2.1;omega
 rw[if_neg k8] at h
 by_cases k9:d.kind=9
 ·rw[if_pos k9] at h
  simp only[stmt9,Bool.and_eq_true,Bool.or_eq_true,decide_eq_true_eq] at h
  rcases h with h|h
  ·have:=named_nn h.2.2.1;omega
  ·have:=named_nn h.2.2.1;omega
 rw[if_neg k9] at h
 by_cases k10:d.kind=10
 ·rw[if_pos k10] at h
  simp only[stmt10,Bool.and_eq_true,decide_eq_true_eq] at h
  have:=named_nn h.2.2.1;omega
 rw[if_neg k10] at h
 by_cases k11:d.kind=11
 ·rw[if_pos k11] at h
  simp only[stmt11,Bool.and_eq_true,decide_eq_true_eq] at h
  have:=bare_nn h.2;omega
 rw[if_neg k11] at h
 by_cases k12:d.kind=12
 ·rw[if_pos k12] at h
  simp only[stmt12,Bool.and_eq_true,decide_eq_true_eq] at h
  have:=bare_nn h.2;omega
 rw[if_neg k12] at h
 by_cases k13:d.kind=13
 ·rw[if_pos k13] at h
  simp only[stmt13,Bool.and_eq_true] at h
  have:=bare_nn h.1;omega
 rw[if_neg k13] at h
 by_cases k14:d.kind=14
 ·rw[if_pos k14] at h
  simp only[stmt14,Bool.and_eq_true,decide_eq_true_eq] at h
  have:=named_nn h.2.2.1;omega
 rw[if_neg k14] at h
 by_cases k15:d.kind=15
 ·rw[if_pos k15] at h
  simp only[stmt15,Bool.and_eq_true,decide_eq_true_eq] at h
  have:=bare_nn h.2.1;omega
 rw[if_neg k15] at h
 by_cases k16:d.kind=16
 ·rw[if_pos k16] at h
  simp only[stmt16,Bool.and_eq_true,decide_eq_true_eq] at h
  have:=bare_nn h.2.1;omega
 rw[if_neg k16] at h
 simp at h
theorem expn_nn (h:expnP pd d=true):d.nn<=200:=by
 unfold expnP at h
 by_cases k20:d.kind=20
 ·rw[if_pos k20] at h
  simp only[expn20,Bool.and_eq_true,decide_eq_true_eq] at h
  have:=bare_nn h.2;omega
 rw[if_neg k20] at h
 by_cases k21:d.kind=21
 ·rw[if_pos k21] at h
  simp only[expn21,Bool.and_eq_true,decide_eq_true_eq] at h
  have:=bare_nn h.2;omega
 rw[if_neg k21] at h
 by_cases k22:d.kind=22
 ·rw[if_pos k22] at h
  simp only[expn22,Bool.and_eq_true,decide_eq_true_eq] at h
  have:=bare_nn h.2;omega
 rw[if_neg k22] at h
 by_cases k23:d.kind=23
 ·rw[if_pos k23] at h
  simp only[expn23,Bool.and_eq_true,decide_eq_true_eq] at h
  have:=bare_nn h.2;omega
 rw[if_neg k23] at h
 by_cases k24:d.kind=24
 ·rw[if_pos k24] at h
  simp only[expn24,Bool.and_eq_true,decide_eq_true_eq] at h
  have:=bare_nn h.2.1;simp only at this;omega
 rw[if_neg k24] at h
 by_cases k25:d.kind=25
 ·rw[if_pos k25] at h
  simp only[expn25,Bool.and_eq_true,decide_eq_true_eq] at h
  have:=bare_nn h.2.2;omega
 rw[if_neg k25] at h
 by_cases k26:d.kind=26
 ·rw[if_pos k26] at h
  simp only[expn26,Bool.and_eq_true,decide_eq_true_eq] at h
  have:=bare_nn h.2.1;omega
 rw[if_neg k26] at h
 by_cases k27:d.kind=27
 ·rw[if_pos k27] at h
  simp only[expn27,Bool.and_eq_true,decide_eq_true_eq] at h
  have:=bare_nn h.2;omega
 rw[if_neg k27] at h
 by_cases k28:d.kind=28
 ·rw[if_pos k28] at h
  simp only[expn28,Bool.and_eq_true,decide_eq_true_eq] at h
  have:=bare_nn h.2.2;omega
 rw[if_neg k28] at h
 by_cases k29:d.kind=29
 ·rw[if_pos k29] at h
  simp only[expn29,Bool.and_eq_true,decide_eq_true_eq] at h
  have:=bare_nn h.2.2;omega
 rw[if_neg k29] at h
 by_cases k30:d.kind=30
 ·rw[if_pos k30] at h
  simp only[expn30,Bool.and_eq_true,decide_eq_true_eq] at h
  have:=bare_nn h.2.2.2.2;omega
 rw[if_neg k30] at h
 by_cases k31:d.kind=31
 ·rw[if_pos k31] at h
  simp only[expn31,Bool.and_eq_true,decide_eq_true_eq] at h
  have:=bare_nn h.2.2.2.2;omega
 rw[if_neg k31] at h
 by_cases k32:d.kind=32
 ·rw[if_pos k32] at h
  simp only[expn32,Bool.and_eq_true,decide_eq_true_eq] at h
  have:=bare_nn h.2.2.2;omega
 rw[if_neg k32] at h
 by_cases k33:d.kind=33
 ·rw[if_pos k33] at h
  simp only[expn33,Bool.and_eq_true,decide_eq_true_eq] at h
  have:=bare_nn h.2.2.2.1;omega
 rw[if_neg k33] at h
 by_cases k34:d.kind=34
 ·rw[if_pos k34] at h
  simp only[expn34,Bool.and_eq_true,decide_eq_true_eq] at h
  have:=bare_nn h.2.2.2;omega
 rw[if_neg k34] at h
 by_cases k35:d.kind=35
 ·rw[if_pos k35] at h
  simp only[expn35,Bool.and_eq_true] at h
  have:=bare_nn h.2;omega
 rw[if_neg k35] at h
 by_cases k36:d.kind=36
 ·rw[if_pos k36] at h
  simp only[expn36,Bool.and_eq_true,decide_eq_true_eq] at h
  have:=named_nn h.2.2.2.2;omega
 rw[if_neg k36] at h
 by_cases k37:d.kind=37
 ·rw[if_pos k37] at h
  simp only[expn37,Bool.and_eq_true,decide_eq_true_eq] at h
  have:=bare_nn h.2.2;omega
 rw[if_neg k37] at h
 by_cases k40:d.kind=40
 ·rw[if_pos k40] at h
  simp only[expn40,Bool.and_eq_true,decide_eq_true_eq] at h
  have:=bare_nn h.2.2;omega
 rw[if_neg k40] at h
 by_cases k41:d.kind=41
 ·rw[if_pos k41] at h
  simp only[expn41,Bool.and_eq_true,decide_eq_true_eq] at h
  have:=bare_nn h.2.2;omega
 rw[if_neg k41] at h
 by_cases k42:d.kind=42
 ·rw[if_pos k42] at h
  simp only[expn42,Bool.and_eq_true,decide_eq_true_eq] at h
  have:=bare_nn h.2.2.1;omega
 rw[if_neg k42] at h
 simp at h
theorem node_parts (h:nodeP pd d i=true):d.nk<=200/\d.nn<=200/\(statP d.kind=true->stmtP pd d=true)/\(statP d.kind=false->expnP pd d=true):=by
 unfold nodeP at h
 simp only[Bool.and_eq_true,decide_eq_true_eq] at h
 obtain ⟨_,_,_,_,h1,_,_,h2⟩:=h
 unfold shapeP at h2
 cases hs:statP d.kind
 ·rw[hs] at h2
  exact ⟨h1,expn_nn h2,fun e=>by simp at e,fun _=>h2⟩
 ·rw[hs] at h2
  exact ⟨h1,stmt_nn h2,fun _=>h2,fun e=>by simp at e⟩
theorem shape_of (hn:∀i,i < np->nodeP (pdOf pm) (pdOf pm i) i=true):∀i,i < np->ShapeAt pm i:=by
 intro i hi
 obtain ⟨_,_,st,ex⟩:=node_parts (hn i hi)
 have K:(pdOf pm i).kind=(pm i).kind:=rfl
 have S:∀{k:Int},(pm i).kind=k->statP k=true->stmtP (pdOf pm) (pdOf pm i)=true:=fun h hs=>st (by rw[K,h];exact hs)
 have E:∀{k:Int},(pm i).kind=k->statP k=false->expnP (pdOf pm) (pdOf pm i)=true:=fun h hs=>ex (by rw[K,h];exact hs)
 refine ⟨fun h=>?_,fun h=>?_,fun h=>?_,fun h=>?_,fun h=>?_,fun h=>?_,fun h=>?_,fun h=>?_,fun h=>?_,fun h=>?_,fun h=>?_,fun h=>?_,fun h=>?_,fun h=>?_,fun h=>?_,fun h=>?_,?_⟩
 ·have s:=S h rfl
  unfold stmtP at s
  rw[K,h] at s
  replace s:stmt1 (pdOf pm) (pdOf pm i)=true:=s
  simp only[stmt1,Bool.and_eq_true] at s
  intro q hq
  have:=allB_at s.1 q (Nat.zero_le _) (by rw[Nat.zero_add];exact hq)
  simp only[statP,Bool.and_eq_true,decide_eq_true_eq] at this
  exact this
 ·rcases h with h|h|h|h|h|h|h|h|h
  ·have s:=S h rfl
   unfold stmtP at s
   rw[K,h] at s
   replace s:stmt2 (pdOf pm) (pdOf pm i)=true:=s
   simp only[stmt2,Bool.and_eq_true] at s
   exact exprs_isE s.2.2
  ·have s:=S h rfl
   unfold stmtP at s
   rw[K,h] at s
   replace s:stmt5 (pdOf pm) (pdOf pm i)=true:=s
   simp only[stmt5,Bool.and_eq_true,decide_eq_true_eq] at s
   obtain ⟨n1,n2,_,s1,s2⟩:=s
   intro q hq
   by_cases e:q < (pdOf pm i).num.toNat
   ·have:=allB_at s1 q (Nat.zero_le _) Zo
    unfold targetP at this
    simp only[Bool.or_eq_true,beq_iff_eq] at this
    have e2:kidP (pdOf pm) (pdOf pm i) q=kk pm i q:=rfl
    rw[e2] at this
    unfold isE
    omega
   ·have:=allB_at s2 q Zo (by have:(pdOf pm i).nk=(pm i).nk:=rfl;omega)
    simp only[exprP,Bool.and_eq_true,decide_eq_true_eq] at this
    exact this
  ·have s:=S h rfl
   unfold stmtP at s
   rw[K,h] at s
   replace s:stmt6 (pdOf pm) (pdOf pm i)=true:=s
   simp only[stmt6,Bool.and_eq_true,decide_eq_true_eq,beq_iff_eq] at s
   exact J147
  ·have s:=S h rfl
   unfold stmtP at s
   rw[K,h] at s
   replace s:stmt13 (pdOf pm) (pdOf pm i)=true:=s
   simp only[stmt13,Bool.and_eq_true] at s
   exact exprs_isE s.2
  ·have s:=S h rfl
   unfold stmtP at s
   rw[K,h] at s
   replace s:stmt15 (pdOf pm) (pdOf pm i)=true:=s
   simp only[stmt15,Bool.and_eq_true,decide_eq_true_eq] at s
   have e1:(pm i).nk=1:=s.1
   intro q hq
   exact exprs_isE s.2.2 q Zo
  ·have s:=S h rfl
   unfold stmtP at s
   rw[K,h] at s
   replace s:stmt16 (pdOf pm) (pdOf pm i)=true:=s
   simp only[stmt16,Bool.and_eq_true,decide_eq_true_eq,beq_iff_eq] at s
   exact J147
  ·have:(pm i).kind=28\/(pm i).kind=29\/(pm i).kind=30\/(pm i).kind=31\/(pm i).kind=32:=Zo
   rcases this with h|h|h|h|h
   ·have s:=E h rfl
    unfold expnP at s
    rw[K,h] at s
    replace s:expn28 (pdOf pm) (pdOf pm i)=true:=s
    simp only[expn28,Bool.and_eq_true,decide_eq_true_eq] at s
    exact J115
   ·have s:=E h rfl
    unfold expnP at s
    rw[K,h] at s
    replace s:expn29 (pdOf pm) (pdOf pm i)=true:=s
    simp only[expn29,Bool.and_eq_true,decide_eq_true_eq] at s
    exact J115
   ·have s:=E h rfl
    unfold expnP at s
    rw[K,h] at s
    replace s:expn30 (pdOf pm) (pdOf pm i)=true:=s
    simp only[expn30,Bool.and_eq_true,decide_eq_true_eq] at s
    have e1:(pm i).nk=1:=s.1
    exact J211
   ·have s:=E h rfl
    unfold expnP at s
    rw[K,h] at s
    replace s:expn31 (pdOf pm) (pdOf pm i)=true:=s
    simp only[expn31,Bool.and_eq_true,decide_eq_true_eq] at s
    have e1:(pm i).nk=2:=s.1
    exact J211
   ·have s:=E h rfl
    unfold expnP at s
    rw[K,h] at s
    replace s:expn32 (pdOf pm) (pdOf pm i)=true:=s
    simp only[expn32,Bool.and_eq_true,decide_eq_true_eq] at s
    exact J115
  ·have s:=E h rfl
   unfold expnP at s
   rw[K,h] at s
   replace s:expn34 (pdOf pm) (pdOf pm i)=true:=s
   simp only[expn34,Bool.and_eq_true] at s
   exact exprs_isE s.2.1
  ·have s:=E h rfl
   unfold expnP at s
   rw[K,h] at s
   replace s:expn37 (pdOf pm) (pdOf pm i)=true:=s
   simp only[expn37,Bool.and_eq_true,Bool.or_eq_true,decide_eq_true_eq,beq_iff_eq] at s
   intro q hq
   have e1:(pm i).nk=1:=s.1
   obtain rfl:q=0:=Zo
   have e2:kk pm i 0=34\/kk pm i 0=27:=s.2.1
   unfold isE;omega
 ·have s:=S h rfl
  unfold stmtP at s
  rw[K,h] at s
  replace s:stmt5 (pdOf pm) (pdOf pm i)=true:=s
  simp only[stmt5,Bool.and_eq_true,decide_eq_true_eq] at s
  have e1:(pdOf pm i).nk=(pm i).nk:=rfl
  omega
 ·have s:=S h rfl
  unfold stmtP at s
  rw[K,h] at s
  replace s:stmt3 (pdOf pm) (pdOf pm i)=true:=s
  simp only[stmt3,Bool.and_eq_true,decide_eq_true_eq] at s
  have e1:=named_nn s.2.2.1
  have e2:(pdOf pm i).nn=(pm i).nn:=rfl
  exact ⟨s.1,by omega,exprs_isE s.2.2.2 0 Zo⟩
 ·have s:=S h rfl
  unfold stmtP at s
  rw[K,h] at s
  replace s:stmt4 (pdOf pm) (pdOf pm i)=true:=s
  simp only[stmt4,Bool.and_eq_true,decide_eq_true_eq,beq_iff_eq] at s
  have e1:=named_nn s.2.2.1
  have e2:(pdOf pm i).nn=(pm i).nn:=rfl
  exact ⟨s.1,by omega,s.2.2.2⟩
 ·have s:=S h rfl
  unfold stmtP at s
  rw[K,h] at s
  replace s:stmt7 (pdOf pm) (pdOf pm i)=true:=s
  simp only[stmt7,Bool.and_eq_true,Bool.or_eq_true,decide_eq_true_eq,beq_iff_eq] at s
  rcases s with s|s
  ·exact ⟨exprs_isE s.2.2.1 0 Zo,s.2.2.2,Or.inl s.1⟩
  ·exact ⟨exprs_isE s.2.2.2.1 0 Zo,s.2.2.2.2,Or.inr ⟨s.1,s.2.1⟩⟩
 ·have s:=S h rfl
  unfold stmtP at s
  rw[K,h] at s
  replace s:stmt8 (pdOf pm) (pdOf pm i)=true:=s
  simp only[stmt8,Bool.and_eq_true,decide_eq_true_eq,beq_iff_eq] at s
  exact ⟨s.1,exprs_isE s.2.2.1 0 Zo,s.2.2.2⟩
 ·have s:=S h rfl
  unfold stmtP at s
  rw[K,h] at s
  replace s:stmt9 (pdOf pm) (pdOf pm i)=true:=s
  simp only[stmt9,Bool.and_eq_true,Bool.or_eq_true,decide_eq_true_eq,beq_iff_eq] at s
  rcases s with s|s
  ·exact Or.inl ⟨s.1,exprs_isE s.2.2.2.1,s.2.2.2.2⟩
  ·exact Or.inr ⟨s.1,exprs_isE s.2.2.2.1,s.2.2.2.2⟩
 ·have s:=S h rfl
  unfold stmtP at s
  rw[K,h] at s
  replace s:stmt10 (pdOf pm) (pdOf pm i)=true:=s
  simp only[stmt10,Bool.and_eq_true,decide_eq_true_eq,beq_iff_eq] at s
  exact ⟨s.1,exprs_isE s.2.2.2.1 0 Zo,s.2.2.2.2⟩
 ·have s:=S h rfl
  unfold stmtP at s
  rw[K,h] at s
  replace s:stmt14 (pdOf pm) (pdOf pm i)=true:=s
  simp only[stmt14,Bool.and_eq_true,decide_eq_true_eq,beq_iff_eq] at s
  have e1:=named_nn s.2.2.1
  have e2:(pdOf pm i).nn=(pm i).nn:=rfl
  exact ⟨s.1,by omega,s.2.2.2.1,s.2.2.2.2⟩
 ·have:(pm i).kind=20\/(pm i).kind=21\/(pm i).kind=22\/(pm i).kind=23\/(pm i).kind=24\/(pm i).kind=25:=Zo
  rcases this with h|h|h|h|h|h
  ·have s:=E h rfl
   unfold expnP at s
   rw[K,h] at s
   replace s:expn20 (pdOf pm) (pdOf pm i)=true:=s
   simp only[expn20,Bool.and_eq_true,decide_eq_true_eq] at s
   exact s.1
  ·have s:=E h rfl
   unfold expnP at s
   rw[K,h] at s
   replace s:expn21 (pdOf pm) (pdOf pm i)=true:=s
   simp only[expn21,Bool.and_eq_true,decide_eq_true_eq] at s
   exact s.1
  ·have s:=E h rfl
   unfold expnP at s
   rw[K,h] at s
   replace s:expn22 (pdOf pm) (pdOf pm i)=true:=s
   simp only[expn22,Bool.and_eq_true,decide_eq_true_eq] at s
   exact s.1
  ·have s:=E h rfl
   unfold expnP at s
   rw[K,h] at s
   replace s:expn23 (pdOf pm) (pdOf pm i)=true:=s
   simp only[expn23,Bool.and_eq_true,decide_eq_true_eq] at s
   exact s.1
  ·have s:=E h rfl
   unfold expnP at s
   rw[K,h] at s
   replace s:expn24 (pdOf pm) (pdOf pm i)=true:=s
   simp only[expn24,Bool.and_eq_true,decide_eq_true_eq] at s
   exact s.1
  ·have s:=E h rfl
   unfold expnP at s
   rw[K,h] at s
   replace s:expn25 (pdOf pm) (pdOf pm i)=true:=s
   simp only[expn25,Bool.and_eq_true,decide_eq_true_eq] at s
   exact s.1
 ·have s:=E h rfl
  unfold expnP at s
  rw[K,h] at s
  replace s:expn33 (pdOf pm) (pdOf pm i)=true:=s
  simp only[expn33,Bool.and_eq_true,decide_eq_true_eq] at s
  exact ⟨s.1,exprs_isE s.2.1 0 Zo⟩
 ·have s:=E h rfl
  unfold expnP at s
  rw[K,h] at s
  replace s:expn35 (pdOf pm) (pdOf pm i)=true:=s
  simp only[expn35,Bool.and_eq_true] at s
  intro j hj
  have e:=allB_at s.1 j (Nat.zero_le _) (by rw[Nat.zero_add];exact hj)
  simp only[entryP,Bool.and_eq_true,decide_eq_true_eq] at e
  have e2:kidP (pdOf pm) (pdOf pm i) j=(pm ((pm i).kd j).toNat).kind:=rfl
  rw[e2] at e
  have kd:=nodeP_kids (hn i hi) j hj
  have e3:(pdOf pm i).kd j=(pm i).kd j:=rfl
  rw[e3] at kd
  generalize hg:((pm i).kd j).toNat=g at*
  have gl:g < np:=Zo
  obtain ⟨_,_,_,ex'⟩:=node_parts (hn g gl)
  have K':(pdOf pm g).kind=(pm g).kind:=rfl
  have:(pm g).kind=40\/(pm g).kind=41\/(pm g).kind=42:=Zo
  rcases this with h'|h'|h'
  ·have s:=ex' (by rw[K',h'];rfl)
   unfold expnP at s
   rw[K',h'] at s
   replace s:expn40 (pdOf pm) (pdOf pm g)=true:=s
   simp only[expn40,Bool.and_eq_true,decide_eq_true_eq] at s
   have n1:(pm g).nk=1:=s.1
   exact ⟨Or.inl ⟨h',n1⟩,fun a ha=>exprs_isE s.2.1 a Zo⟩
  ·have s:=ex' (by rw[K',h'];rfl)
   unfold expnP at s
   rw[K',h'] at s
   replace s:expn41 (pdOf pm) (pdOf pm g)=true:=s
   simp only[expn41,Bool.and_eq_true,decide_eq_true_eq] at s
   have n1:(pm g).nk=2:=s.1
   exact ⟨Or.inr (Or.inl ⟨h',n1⟩),fun a ha=>exprs_isE s.2.1 a Zo⟩
  ·have s:=ex' (by rw[K',h'];rfl)
   unfold expnP at s
   rw[K',h'] at s
   replace s:expn42 (pdOf pm) (pdOf pm g)=true:=s
   simp only[expn42,Bool.and_eq_true,decide_eq_true_eq] at s
   have n1:(pm g).nk=1:=s.1
   exact ⟨Or.inr (Or.inr ⟨h',n1⟩),fun a ha=>exprs_isE s.2.1 a Zo⟩
 ·have s:=E h rfl
  unfold expnP at s
  rw[K,h] at s
  replace s:expn36 (pdOf pm) (pdOf pm i)=true:=s
  simp only[expn36,Bool.and_eq_true,decide_eq_true_eq,beq_iff_eq] at s
  exact ⟨s.1,s.2.2.1⟩
 ·rcases h with h|h|h|h
  ·have s:=S h rfl
   unfold stmtP at s
   rw[K,h] at s
   replace s:stmt11 (pdOf pm) (pdOf pm i)=true:=s
   simp only[stmt11,Bool.and_eq_true,decide_eq_true_eq] at s
   exact s.1
  ·have s:=S h rfl
   unfold stmtP at s
   rw[K,h] at s
   replace s:stmt12 (pdOf pm) (pdOf pm i)=true:=s
   simp only[stmt12,Bool.and_eq_true,decide_eq_true_eq] at s
   exact s.1
  ·have s:=E h rfl
   unfold expnP at s
   rw[K,h] at s
   replace s:expn26 (pdOf pm) (pdOf pm i)=true:=s
   simp only[expn26,Bool.and_eq_true,decide_eq_true_eq] at s
   exact s.1
  ·have s:=E h rfl
   unfold expnP at s
   rw[K,h] at s
   replace s:expn27 (pdOf pm) (pdOf pm i)=true:=s
   simp only[expn27,Bool.and_eq_true,decide_eq_true_eq] at s
   exact s.1
 ·have:(pm i).kind=40\/(pm i).kind=41\/(pm i).kind=42:=Zo
  rcases this with h|h|h
  ·have s:=E h rfl
   unfold expnP at s
   rw[K,h] at s
   replace s:expn40 (pdOf pm) (pdOf pm i)=true:=s
   simp only[expn40,Bool.and_eq_true,decide_eq_true_eq] at s
   exact J182
  ·have s:=E h rfl
   unfold expnP at s
   rw[K,h] at s
   replace s:expn41 (pdOf pm) (pdOf pm i)=true:=s
   simp only[expn41,Bool.and_eq_true,decide_eq_true_eq] at s
   exact J115
  ·have s:=E h rfl
   unfold expnP at s
   rw[K,h] at s
   replace s:expn42 (pdOf pm) (pdOf pm i)=true:=s
   simp only[expn42,Bool.and_eq_true,decide_eq_true_eq] at s
   exact J182
 ·cases hs:statP (pm i).kind
  ·have e:=ex hs
   refine Or.inr ?_
   unfold expnP at e
   rw[K] at e
   unfold isE
   by_cases k20:(pm i).kind=20
   ·omega
   rw[if_neg k20] at e
   by_cases k21:(pm i).kind=21
   ·omega
   rw[if_neg k21] at e
   by_cases k22:(pm i).kind=22
   ·omega
   rw[if_neg k22] at e
   by_cases k23:(pm i).kind=23
   ·omega
   rw[if_neg k23] at e
   by_cases k24:(pm i).kind=24
   ·omega
   rw[if_neg k24] at e
   by_cases k25:(pm i).kind=25
   ·omega
   rw[if_neg k25] at e
   by_cases k26:(pm i).kind=26
   ·omega
   rw[if_neg k26] at e
   by_cases k27:(pm i).kind=27
   ·omega
   rw[if_neg k27] at e
   by_cases k28:(pm i).kind=28
   ·omega
   rw[if_neg k28] at e
   by_cases k29:(pm i).kind=29
   ·omega
   rw[if_neg k29] at e
   by_cases k30:(pm i).kind=30
   ·omega
   rw[if_neg k30] at e
   by_cases k31:(pm i).kind=31
   ·omega
   rw[if_neg k31] at e
   by_cases k32:(pm i).kind=32
   ·omega
   rw[if_neg k32] at e
   by_cases k33:(pm i).kind=33
   ·omega
   rw[if_neg k33] at e
   by_cases k34:(pm i).kind=34
   ·omega
   rw[if_neg k34] at e
   by_cases k35:(pm i).kind=35
   ·omega
   rw[if_neg k35] at e
   by_cases k36:(pm i).kind=36
   ·omega
   rw[if_neg k36] at e
   by_cases k37:(pm i).kind=37
   ·omega
   rw[if_neg k37] at e
   by_cases k40:(pm i).kind=40
   ·omega
   rw[if_neg k40] at e
   by_cases k41:(pm i).kind=41
   ·omega
   rw[if_neg k41] at e
   by_cases k42:(pm i).kind=42
   ·omega
   rw[if_neg k42] at e
   simp at e
  ·unfold statP at hs
   simp only[Bool.and_eq_true,decide_eq_true_eq] at hs
   exact Or.inl hs
def szOf (pd:Nat->PD) (np i:Nat):Nat:=(sizesN pd np i).toNat
theorem sizesN_keep (pd:Nat->PD):∀(m i k:Nat),k < i->i<=m->sizesN pd m k=sizesN pd i k
 |0,i,k,h1,h2=>by omega
 |m+1,i,k,h1,h2=>by
  by_cases e:i=m+1
  ·rw[e]
  ·simp only[sizesN]
   rw[if_neg Zo]
   exact sizesN_keep pd m i k h1 Zo
theorem downS_sum {S:Nat->Int}{kd:Nat->Int}:∀(j:Nat) (x a:Int),(∀q,q < j->(sz (kd q).toNat:Int)=S (kd q).toNat)->downS S kd j x=some a->(psum sz kd j:Int)+a=x
 |0,x,a,_,h=>by simp only[downS,Option.some.injEq] at h;simp only[psum];omega
 |j+1,x,a,hs,h=>by
  simp only[downS] at h
  cases hb:(kd j==x-1)&&!(S (kd j).toNat==0)
  ·rw[hb] at h;simp at h
  ·rw[hb] at h
   simp only[cond_true] at h
   have ih:=downS_sum j _ a (fun q hq=>hs q Zo) h
   have:=hs j Zo
   simp only[psum]
   omega
theorem sound_tr {pa:Option Addr}{np pc:Nat}(ha:PartsAt w0 pa np pm)(hs:specT (pdOf pm) np=(0,0)):Tr w0 (.slice pa np pc) np pm (szOf (pdOf pm) np)/\(∀i,i < np->ShapeAt pm i)/\0 < np/\(pm (np-1)).kind=1/\szOf (pdOf pm) np (np-1)=np:=by
 unfold specT at hs
 cases h0:(decide (0 < np)&&(decide (np<=3000)&&((pdOf pm (np-1)).kind==1)))
 ·rw[h0] at hs;simp at hs
 rw[h0] at hs
 simp only[Bool.and_eq_true,decide_eq_true_eq,beq_iff_eq] at h0
 simp only[cond_true] at hs
 cases h2:firstBad (fun i=>nodeP (pdOf pm) (pdOf pm i) i) 0 np with
 |some i=>rw[h2] at hs;simp[after] at hs
 |none=>
  rw[h2] at hs
  simp only[after] at hs
  cases h3:firstBad (fun i=>!(sizesN (pdOf pm) np i==0)) 0 np with
  |some i=>rw[h3] at hs;simp at hs
  |none=>
   rw[h3] at hs
   simp only at hs
   have hn:∀i,i < np->nodeP (pdOf pm) (pdOf pm i) i=true:=fun i hi=>firstBad_no h2 i (Nat.zero_le _) Zo
   have hz:∀i,i < np->sizesN (pdOf pm) np i≠0:=fun i hi=>by
    have:=firstBad_no h3 i (Nat.zero_le _) Zo
    simpa using this
   have hk:∀i,i < np->∀j,j < (pm i).nk->0<=(pm i).kd j/\(pm i).kd j < i:=fun i hi=>nodeP_kids (hn i hi)
   have hle:=sizesN_le (pd:=pdOf pm) (np:=np) (fun i hi j hj=>(hk i hi j hj).1) np (Nat.le_refl _)
   have hend:sizesN (pdOf pm) np (np-1)=np:=by
    cases h4:(sizesN (pdOf pm) np (np-1)==(np:Int))
    ·rw[h4] at hs;simp at hs
    ·simpa using h4
   refine ⟨⟨⟨pa,pc,rfl,ha⟩,h0.2.1,hk,fun i hi=>(node_parts (hn i hi)).1,fun i hi=>(node_parts (hn i hi)).2.1,fun i hi=>?_,fun i hi=>?_⟩,shape_of hn,h0.1,h0.2.2,?_⟩
   ·have e1:sizesN (pdOf pm) np i=fromDown i (downS (sizesN (pdOf pm) i) (pm i).kd (pm i).nk i):=by
     rw[sizesN_keep (pdOf pm) np (i+1) i Zo Zo]
     simp only[sizesN,if_true]
     rfl
    cases hd:downS (sizesN (pdOf pm) i) (pm i).kd (pm i).nk i with
    |none=>rw[hd] at e1;exact absurd e1 (hz i hi)
    |some a=>
     rw[hd] at e1
     simp only[fromDown] at e1
     have e2:=downS_sum (sz:=szOf (pdOf pm) np) (pm i).nk i a (fun q hq=>by
      have kq:=hk i hi q hq
      unfold szOf
      rw[sizesN_keep (pdOf pm) np i _ Zo Zo]
      have:=hle ((pm i).kd q).toNat
      rw[sizesN_keep (pdOf pm) np i _ Zo Zo] at this
      omega) hd
     have:=hle i
     unfold szOf at e2 ⊢
     omega
   ·have:=hle i
    unfold szOf
    omega
   ·unfold szOf
    omega
end Go.Proofs.YtlibofjbhhdjdaaGreat
