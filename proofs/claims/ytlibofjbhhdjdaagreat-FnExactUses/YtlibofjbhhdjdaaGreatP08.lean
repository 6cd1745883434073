import Derived.Test.YtlibofjbhhdjdaaGreatQ
import Derived.Test.YtlibofjbhhdjdaaGreatP02
set_option linter.unusedSimpArgs false
set_option maxRecDepth 100000
set_option maxHeartbeats 16000000
namespace Go.Proofs.YtlibofjbhhdjdaaGreat
open Go.RowKit
attribute [local go_sem] rsf
def exprP (k:Int):Bool:=decide (20<=k)&&decide (k<=37)
def statP (k:Int):Bool:=decide (1<=k)&&decide (k<=16)
def targetP (k:Int):Bool:=k==26||k==32||k==33
def fzero (x:Nat):Bool:=FloatKind.f64.format.order x 0==some .eq
def fnum (x:Nat):Bool:=FloatKind.f64.format.order x x==some .eq
def bareP (d:PD) (o n t m:Bool):Bool:=(o||d.op==0)&&(n||d.num==0)&&fzero d.flt&&(t||decide (d.text.toList= []))&&(m||(d.nn:Int)==0)
def pdOf (pm:Nat->PM):Nat->PD:=fun i=>(pm i).toPD
def kidP (pd:Nat->PD) (d:PD) (i:Nat):Int:=(pd (d.kd i).toNat).kind
def exprsP (pd:Nat->PD) (d:PD) (i k:Nat):Bool:=allB (fun j=>exprP (kidP pd d j)) i (k-i)
theorem l6expr_any (k:Int)(w:World):Calls Tryz.prog 80 #[.int .i64 k] w fun e w'=>e= .returned (.bool (exprP k))/\w'=w:=by
 go_enter Tryz.func80,Tryz.ntmps80
 go_wp2
 all_goals go_ret
 all_goals exact ⟨rtb (by simp[exprP, *];try omega),rfl⟩
theorem l6stat_any (k:Int)(w:World):Calls Tryz.prog 37 #[.int .i64 k] w fun e w'=>e= .returned (.bool (statP k))/\w'=w:=by
 go_enter Tryz.func37,Tryz.ntmps37
 go_wp2
 all_goals go_ret
 all_goals exact ⟨rtb (by simp[statP, *];try omega),rfl⟩
theorem l6target_any (k:Int)(w:World):Calls Tryz.prog 57 #[.int .i64 k] w fun e w'=>e= .returned (.bool (targetP k))/\w'=w:=by
 go_enter Tryz.func57,Tryz.ntmps57
 go_wp2
 all_goals go_ret
 all_goals exact ⟨rtb (by simp[targetP, *]),rfl⟩
theorem l6bare_any (m:PM)(w:World)(o n t k:Bool)(hc:(o,n,t,k)∈ [(false,false,false,false),(false,false,false,true),(false,true,false,false),(false,false,true,false),(true,false,false,false),(true,false,false,true)]):
  Calls Tryz.prog 54 #[.agg #[.int .i64 m.kind,.int .i64 m.frm,.int .i64 m.tto,.int .i64 m.line,.int .i64 m.op,.int .i64 m.num,.float .f64 m.flt,.string m.text,.slice m.na m.nn m.nc,.slice m.ka m.nk m.kc],.bool o,.bool n,.bool t,.bool k] w fun e w'=>e= .returned (.bool (bareP m.toPD o n t k))/\Onw w w':=by
 simp only[List.mem_cons,Prod.mk.injEq,List.mem_nil_iff,or_false] at hc
 rcases hc with ⟨rfl,rfl,rfl,rfl⟩|⟨rfl,rfl,rfl,rfl⟩|⟨rfl,rfl,rfl,rfl⟩|⟨rfl,rfl,rfl,rfl⟩|⟨rfl,rfl,rfl,rfl⟩|⟨rfl,rfl,rfl,rfl⟩
 all_goals
  go_enter Tryz.func54,Tryz.ntmps54
  go_wp2
  all_goals go_ret
  all_goals exact ⟨rtb (by simp_all [bareP,fzero]),Onw.alloc _ _⟩
def withinB (a b:Int):Bool:=decide (0<=a)&&decide (a < b)
theorem within_any (a b:Int)(w:World):Calls Tryz.prog 77 #[.int .i64 a,.int .i64 b] w fun e w'=>e= .returned (.bool (withinB a b))/\w'=w:=by
 go_enter Tryz.func77,Tryz.ntmps77
 go_wp2
 all_goals go_ret
 all_goals exact ⟨rtb (by simp[withinB, *];try omega),rfl⟩
def partT (kind:Int):TypeId:=
 if kind=1 then 129 else
 if kind=2 then 131 else
 if kind=3 then 133 else
 if kind=4 then 134 else
 if kind=5 then 173 else
 if kind=6 then 175 else
 if kind=16 then 175 else
 if kind=7 then 176 else
 if kind=8 then 177 else
 if kind=9 then 135 else
 if kind=10 then 136 else
 if kind=11 then 178 else
 if kind=12 then 178 else
 if kind=13 then 179 else
 if kind=14 then 137 else
 if kind=15 then 180 else
 if kind=20 then 181 else
 if kind=21 then 181 else
 if kind=22 then 181 else
 if kind=23 then 183 else
 if kind=24 then 184 else
 if kind=25 then 186 else
 if kind=26 then 141 else
 if kind=27 then 182 else
 if kind=28 then 187 else
 if kind=29 then 187 else
 if kind=30 then 188 else
 if kind=31 then 189 else
 if kind=32 then 190 else
 if kind=33 then 191 else
 if kind=34 then 192 else
 if kind=35 then 193 else
 if kind=36 then 140 else
 if kind=37 then 195 else
 if kind=40 then 198 else
 if kind=41 then 199 else
 if kind=42 then 200 else
 144
def slimP (d:PD):Prop:=d.nk<=200/\d.nn<=200
def slimD (d:PD):Decidable (slimP d):= @instDecidableAnd _ _ (d.nk.decLe 200) (d.nn.decLe 200)
def ptT (d:PD):TypeId:= @ite _ (slimP d) (slimD d) (partT d.kind) 144
def knP (d:PD):Nat:= @ite _ (slimP d) (slimD d) d.nk 0
structure PX where
 m:PM
 p:Nat
 k:Option Addr
def PX.val (x:PX):Value:= .agg #[.int .i64 x.p,.int .i64 x.m.kind,.int .i64 x.m.frm,.int .i64 x.m.tto,.int .i64 x.m.line,.int .i64 x.m.op,.int .i64 x.m.num,.float .f64 x.m.flt,.string x.m.text,.slice x.m.na x.m.nn x.m.nc,.slice x.m.ka x.m.nk x.m.kc,.slice x.k (knP x.m.toPD) (knP x.m.toPD)]
def pv:Option PX->Value
 |none=> .nilIface
 |some x=> .iface (ptT x.m.toPD) x.val
def roleK (k:Int):Int:=
 if k=1 then 7 else
 if k=2 then 1 else
 if k=3 then 1 else
 if k=4 then 1 else
 if k=5 then 1 else
 if k=6 then 1 else
 if k=16 then 1 else
 if k=7 then 5 else
 if k=8 then 1 else
 if k=9 then 1 else
 if k=10 then 1 else
 if k=11 then 1 else
 if k=12 then 1 else
 if k=13 then 1 else
 if k=14 then 1 else
 if k=15 then 1 else
 if k=20 then 24 else
 if k=21 then 24 else
 if k=22 then 24 else
 if k=23 then 24 else
 if k=24 then 24 else
 if k=25 then 24 else
 if k=26 then 152 else
 if k=27 then 72 else
 if k=28 then 24 else
 if k=29 then 24 else
 if k=30 then 24 else
 if k=31 then 24 else
 if k=32 then 152 else
 if k=33 then 152 else
 if k=34 then 120 else
 if k=35 then 24 else
 if k=36 then 280 else
 if k=37 then 24 else
 if k=40 then 512 else
 if k=41 then 512 else
 if k=42 then 512 else
 0
def roleP (d:PD):Int:= @ite _ (slimP d) (slimD d) (roleK d.kind) 0
def roleO:Option PX->Int
 |none=>0
 |some x=>roleP x.m.toPD
def ValsAt (w:World) (a:Option Addr) (n:Nat) (f:Nat->Value):Prop:=
 0 < n->∃b off,a=some ⟨b,off,none⟩/\∀i,i < n->w.cell? ⟨b,off+i,none⟩=some (f i)
theorem ValsAt.onw {w w':World}(hb:Onw w w'){a n f}(h:ValsAt w a n f):ValsAt w' a n f:=fun h0=>by
 obtain ⟨b,off,ha,hc⟩:=h h0
 exact ⟨b,off,ha,fun i hi=>con hb (hc i hi)⟩
theorem kinds_all (k:Int):k=1\/k=2\/k=3\/k=4\/k=5\/k=6\/k=16\/k=7\/k=8\/k=9\/k=10\/k=11\/k=12\/k=13\/k=14\/k=15\/k=20\/k=21\/k=22\/k=23\/k=24\/k=25\/k=26\/k=27\/k=28\/k=29\/k=30\/k=31\/k=32\/k=33\/k=34\/k=35\/k=36\/k=37\/k=40\/k=41\/k=42\/(partT k=144/\roleK k=0/\k≠1/\k≠2/\k≠3/\k≠4/\k≠5/\k≠6/\k≠16/\k≠7/\k≠8/\k≠9/\k≠10/\k≠11/\k≠12/\k≠13/\k≠14/\k≠15/\k≠20/\k≠21/\k≠22/\k≠23/\k≠24/\k≠25/\k≠26/\k≠27/\k≠28/\k≠29/\k≠30/\k≠31/\k≠32/\k≠33/\k≠34/\k≠35/\k≠36/\k≠37/\k≠40/\k≠41/\k≠42):=by
 by_cases e1:k=1
 ·simp[e1]
 by_cases e2:k=2
 ·simp[e2]
 by_cases e3:k=3
 ·simp[e3]
 by_cases e4:k=4
 ·simp[e4]
 by_cases e5:k=5
 ·simp[e5]
 by_cases e6:k=6
 ·simp[e6]
 by_cases e16:k=16
 ·simp[e16]
 by_cases e7:k=7
 ·simp[e7]
 by_cases e8:k=8
 ·simp[e8]
 by_cases e9:k=9
 ·simp[e9]
 by_cases e10:k=10
 ·simp[e10]
 by_cases e11:k=11
 ·simp[e11]
 by_cases e12:k=12
 ·simp[e12]
 by_cases e13:k=13
 ·simp[e13]
 by_cases e14:k=14
 ·simp[e14]
 by_cases e15:k=15
 ·simp[e15]
 by_cases e20:k=20
 ·simp[e20]
 by_cases e21:k=21
 ·simp[e21]
 by_cases e22:k=22
 ·simp[e22]
 by_cases e23:k=23
 ·simp[e23]
 by_cases e24:k=24
 ·simp[e24]
 by_cases e25:k=25
 ·simp[e25]
 by_cases e26:k=26
 ·simp[e26]
 by_cases e27:k=27
 ·simp[e27]
 by_cases e28:k=28
 ·simp[e28]
 by_cases e29:k=29
 ·simp[e29]
 by_cases e30:k=30
 ·simp[e30]
 by_cases e31:k=31
 ·simp[e31]
 by_cases e32:k=32
 ·simp[e32]
 by_cases e33:k=33
 ·simp[e33]
 by_cases e34:k=34
 ·simp[e34]
 by_cases e35:k=35
 ·simp[e35]
 by_cases e36:k=36
 ·simp[e36]
 by_cases e37:k=37
 ·simp[e37]
 by_cases e40:k=40
 ·simp[e40]
 by_cases e41:k=41
 ·simp[e41]
 by_cases e42:k=42
 ·simp[e42]
 refine Or.inr (Or.inr (Or.inr (Or.inr (Or.inr (Or.inr (Or.inr (Or.inr (Or.inr (Or.inr (Or.inr (Or.inr (Or.inr (Or.inr (Or.inr (Or.inr (Or.inr (Or.inr (Or.inr (Or.inr (Or.inr (Or.inr (Or.inr (Or.inr (Or.inr (Or.inr (Or.inr (Or.inr (Or.inr (Or.inr (Or.inr (Or.inr (Or.inr (Or.inr (Or.inr (Or.inr (Or.inr (⟨?_,?_,e1,e2,e3,e4,e5,e6,e16,e7,e8,e9,e10,e11,e12,e13,e14,e15,e20,e21,e22,e23,e24,e25,e26,e27,e28,e29,e30,e31,e32,e33,e34,e35,e36,e37,e40,e41,e42⟩)))))))))))))))))))))))))))))))))))))
 ·unfold partT;rw[if_neg e1,if_neg e2,if_neg e3,if_neg e4,if_neg e5,if_neg e6,if_neg e16,if_neg e7,if_neg e8,if_neg e9,if_neg e10,if_neg e11,if_neg e12,if_neg e13,if_neg e14,if_neg e15,if_neg e20,if_neg e21,if_neg e22,if_neg e23,if_neg e24,if_neg e25,if_neg e26,if_neg e27,if_neg e28,if_neg e29,if_neg e30,if_neg e31,if_neg e32,if_neg e33,if_neg e34,if_neg e35,if_neg e36,if_neg e37,if_neg e40,if_neg e41,if_neg e42]
 ·unfold roleK;rw[if_neg e1,if_neg e2,if_neg e3,if_neg e4,if_neg e5,if_neg e6,if_neg e16,if_neg e7,if_neg e8,if_neg e9,if_neg e10,if_neg e11,if_neg e12,if_neg e13,if_neg e14,if_neg e15,if_neg e20,if_neg e21,if_neg e22,if_neg e23,if_neg e24,if_neg e25,if_neg e26,if_neg e27,if_neg e28,if_neg e29,if_neg e30,if_neg e31,if_neg e32,if_neg e33,if_neg e34,if_neg e35,if_neg e36,if_neg e37,if_neg e40,if_neg e41,if_neg e42]
theorem l6kid_any (t:TM)(m:PM)(i:Nat)(w:World)(hn:t.np<=1048576)(hi:i < m.nk)(hk:m.nk<=1048576)(h0:0<=m.kd i)(h1:m.kd i < t.np)(ht:t.At w)(hm:IntsAt w m.ka m.nk m.kd):
  Calls Tryz.prog 53 #[.agg #[.slice t.pa t.np t.pc],.agg #[.int .i64 m.kind,.int .i64 m.frm,.int .i64 m.tto,.int .i64 m.line,.int .i64 m.op,.int .i64 m.num,.float .f64 m.flt,.string m.text,.slice m.na m.nn m.nc,.slice m.ka m.nk m.kc],.int .i64 i] w fun e w'=>e= .returned (.int .i64 (kidP (pdOf t.pm) m.toPD i))/\Onw w w':=by
 obtain ⟨np,pm,pa,pc⟩:=t
 simp only at*
 obtain ⟨q,hq⟩:=Int.eq_ofNat_of_zero_le h0
 have hqn:q < np:=Zo
 obtain ⟨b,off,hpa,hc⟩:=ht.1 J322
 simp only at hpa
 subst hpa
 have c0:=(hc q hqn).c0
 obtain ⟨kb,ko,hka,hcc⟩:=hm Zo
 have k0:=hcc i hi
 have fin:Hid (kidP (pdOf pm) m.toPD i=(pm q).kind):=by show _=_;unfold kidP pdOf;rw[hq];rfl
 rw[hq] at k0
 have i0:(0:Int)<=(i:Int):=Zo
 have i1:(i:Int) < (m.nk:Int):=Zo
 have q0:(0:Int)<=(q:Int):=Zo
 have q1:(q:Int) < (np:Int):=Zo
 have z1:=clt c0
 have z2:=clt k0
 simp only at c0
 rw[hka]
 clear hc hcc hq h0 h1 hka hm ht
 go_enter Tryz.func53,Tryz.ntmps53
 go_wp2_with fail
 go_quiet (fail)
 go_wp2_with fail
 go_ret
 exact ⟨ret_int fin.out.symm,below_drewN ((Onw.alloc _ _).trans (Onw.alloc _ _)) _⟩
theorem l6exprs_any (t:TM)(m:PM)(i k:Nat)(w:World)(hn:t.np<=1048576)(hik:i<=k)(hkk:k<=m.nk)(hk:m.nk<=1048576)(hr:∀j,j < m.nk->0<=m.kd j/\m.kd j < t.np)(ht:t.At w)(hm:IntsAt w m.ka m.nk m.kd):
  Calls Tryz.prog 56 #[.agg #[.slice t.pa t.np t.pc],.agg #[.int .i64 m.kind,.int .i64 m.frm,.int .i64 m.tto,.int .i64 m.line,.int .i64 m.op,.int .i64 m.num,.float .f64 m.flt,.string m.text,.slice m.na m.nn m.nc,.slice m.ka m.nk m.kc],.int .i64 i,.int .i64 k] w fun e w'=>e= .returned (.bool (exprsP (pdOf t.pm) m.toPD i k))/\Onw w w':=by
 obtain ⟨np,pm,pa,pc⟩:=t
 simp only at*
 have HR:Hid _:=hr
 have HT:Hid _:=ht
 clear hr ht
 obtain ⟨KA,hKA⟩:∃KA,m.ka=KA:=⟨_,rfl⟩
 rw[hKA] at hm ⊢
 clear hKA
 have N1:=Blk.new w 30 #[.slice pa np pc]
 have N2:=Blk.new (w.alloc (Obj.cells #[.slice pa np pc] 30)) 67 #[.int .i64 m.kind,.int .i64 m.frm,.int .i64 m.tto,.int .i64 m.line,.int .i64 m.op,.int .i64 m.num,.float .f64 m.flt,.string m.text,.slice m.na m.nn m.nc,.slice KA m.nk m.kc]
 have O2:=Onw.alloc (w.alloc (Obj.cells #[.slice pa np pc] 30)) (Obj.cells #[.int .i64 m.kind,.int .i64 m.frm,.int .i64 m.tto,.int .i64 m.line,.int .i64 m.op,.int .i64 m.num,.float .f64 m.flt,.string m.text,.slice m.na m.nn m.nc,.slice KA m.nk m.kc] 67)
 have N1':=N1.onw O2
 have o2:=(Onw.alloc w (Obj.cells #[.slice pa np pc] 30)).trans O2
 simp only[World.size_alloc] at N2
 clear N1 O2
 go_enter Tryz.func56,Tryz.ntmps56
 go_wp2_with fail
 go_loopw [9] (fun x wr=>∃j:Nat,i<=j/\j<=k/\x= .int .i64 j/\Onw w wr/\Blk wr w.heap.size 30 #[.slice pa np pc]/\Blk wr (w.heap.size+1) 67 #[.int .i64 m.kind,.int .i64 m.frm,.int .i64 m.tto,.int .i64 m.line,.int .i64 m.op,.int .i64 m.num,.float .f64 m.flt,.string m.text,.slice m.na m.nn m.nc,.slice KA m.nk m.kc]/\exprsP (pdOf pm) m.toPD i k=allB (fun j=>exprP (kidP (pdOf pm) m.toPD j)) j (k-j)) (fun x _=>k-(intOf x).toNat)
 case atStart=>exact ⟨i,Nat.le_refl _,hik,rfl,o2,N1',N2,rfl⟩
 case round=>
  clear o2 N1' N2
  obtain ⟨j,hj0,hj,rfl,ob,B1,B2,hq⟩:=hrel
  have HQ:Hid _:=hq
  clear hq
  by_cases hlt:j < k
  ·obtain ⟨h0,h1⟩:=HR.out j Zo
   obtain ⟨q,hqq⟩:=Int.eq_ofNat_of_zero_le h0
   have hqn:q < np:=Zo
   obtain ⟨b,off,hpa,hc⟩:=(PartsAt.onw ob HT.out).1 J322
   subst hpa
   have c0:=(hc q hqn).c0
   obtain ⟨kb,ko,hka,hcc⟩:=hm.onw ob Zo
   subst hka
   have k0:=hcc j Zo
   have fin:Hid (kidP (pdOf pm) m.toPD j=(pm q).kind):=by show _=_;unfold kidP pdOf;rw[hqq];rfl
   rw[hqq] at k0
   have st:Hid (allB (fun j=>exprP (kidP (pdOf pm) m.toPD j)) j (k-j)=(exprP (pm q).kind&&allB (fun j=>exprP (kidP (pdOf pm) m.toPD j)) (j+1) (k-(j+1)))):=by
    show _=_
    rw[show k-j=(k-(j+1))+1 from by omega,<-fin.out];rfl
   have i0:(0:Int)<=(j:Int):=Zo
   have i1:(j:Int) < (m.nk:Int):=Zo
   have q0:(0:Int)<=(q:Int):=Zo
   have q1:(q:Int) < (np:Int):=Zo
   have z1:=clt c0
   have z2:=clt k0
   have x0:=Blk.at_ B1 0 rfl
   have x9:=Blk.at_ B2 9 rfl
   clear hc hcc hqq h0 h1
   cases hx:exprP (pm q).kind
   all_goals
    go_wp2_with fail
    go_region_held3 (fun w'=>w'.cell? ⟨w.heap.size,0,none⟩=some (.slice (some ⟨b,off,none⟩) np pc)/\w'.cell? ⟨w.heap.size+1,9,none⟩=some (.slice (some ⟨kb,ko,none⟩) m.nk m.kc)/\w'.cell? ⟨kb,ko+j,none⟩=some (.int .i64 q)/\w'.cell? ⟨b,off+q*10,none⟩=some (.int .i64 (pm q).kind)) (go_keep)
     (first|(go_at_call 80;refine (l6expr_any _ _).mono ?_;rintro e w1 ⟨rfl,rfl⟩;rw[hx]))
   ·go_wp2_with fail
    go_ret
    exact ⟨rtb (by rw[HQ.out,st.out,hx];rfl),Below.drew ob⟩
   ·go_wp2_with fail
    go_roundw
    case rel=>exact ⟨j+1,by omega,by omega,by go_num,Below.drew ob,B1.onw (Below.drew (Onw.refl _)),B2.onw (Below.drew (Onw.refl _)),by rw[HQ.out,st.out,hx];rfl⟩
    case measure=>simp[intOf];omega
  ·have st:Hid (allB (fun j=>exprP (kidP (pdOf pm) m.toPD j)) j (k-j)=true):=by
    show _=_
    rw[show k-j=0 from by omega];rfl
   go_wp2_with fail
   go_ret
   exact ⟨rtb (by rw[HQ.out,st.out]),ob⟩
def namedP (d:PD) (least most:Nat):Bool:=decide (least<=d.nn)&&decide (d.nn<=most)&&allB (fun i=>nameB (d.nm i)) 0 d.nn
theorem l6named_any (m:PM)(least most:Nat)(w:World)(hn:m.nn<=1048576)(hz:∀i,i < m.nn->(m.nm i).size<=1048576)(hm:StrsAt w m.na m.nn m.nm):
  Calls Tryz.prog 55 #[.agg #[.int .i64 m.kind,.int .i64 m.frm,.int .i64 m.tto,.int .i64 m.line,.int .i64 m.op,.int .i64 m.num,.float .f64 m.flt,.string m.text,.slice m.na m.nn m.nc,.slice m.ka m.nk m.kc],.int .i64 least,.int .i64 most] w fun e w'=>e= .returned (.bool (namedP m.toPD least most))/\Onw w w':=by
 have HZ:Hid _:=hz
 clear hz
 obtain ⟨NA,hNA⟩:∃NA,m.na=NA:=⟨_,rfl⟩
 rw[hNA] at hm ⊢
 clear hNA
 by_cases h1:least<=m.nn
 ·by_cases h2:m.nn<=most
  ·have fin:Hid (namedP m.toPD least most=allB (fun i=>nameB (m.nm i)) 0 m.nn):=by
    show namedP _ _ _=_
    unfold namedP
    rw[decide_eq_true (show least<=m.toPD.nn from h1),decide_eq_true (show m.toPD.nn<=most from h2)];rfl
   have d1:decide ((m.nn:Int) < (least:Int))=false:=decide_eq_false Zo
   have d1':(least:Int)<=(m.nn:Int):=Zo
   have d2:decide ((most:Int) < (m.nn:Int))=false:=decide_eq_false Zo
   have d2':(m.nn:Int)<=(most:Int):=Zo
   clear h1 h2
   go_enter Tryz.func55,Tryz.ntmps55
   go_wp2_with fail
   simp only[show decide (m.nn < least)=false from decide_eq_false Zo,show decide (most < m.nn)=false from decide_eq_false Zo,Bool.or_false]
   clear d1 d2 d1' d2'
   go_loopw [24] (fun x wr=>∃j:Nat,j<=m.nn/\x= .int .i64 j/\Onw w wr/\allB (fun i=>nameB (m.nm i)) 0 m.nn=allB (fun i=>nameB (m.nm i)) j (m.nn-j)) (fun x _=>m.nn-(intOf x).toNat)
   case atStart=>exact ⟨0,Nat.zero_le _,rfl,Onw.alloc _ _,rfl⟩
   case round=>
    obtain ⟨j,hj,rfl,ob,hq⟩:=hrel
    have HQ:Hid _:=hq
    clear hq
    by_cases hlt:j < m.nn
    ·obtain ⟨b,off,hna,hc⟩:=hm.onw ob Zo
     subst hna
     have c0:=hc j hlt
     have st:Hid (allB (fun i=>nameB (m.nm i)) j (m.nn-j)=(nameB (m.nm j)&&allB (fun i=>nameB (m.nm i)) (j+1) (m.nn-(j+1)))):=by
      show _=_
      rw[show m.nn-j=(m.nn-(j+1))+1 from by omega];rfl
     have hzj:=HZ.out j hlt
     clear hc
     go_wp2_with fail
     refine (l6nameok_any _ _ hzj).mono ?_
     rintro e w1 ⟨rfl,O1⟩
     cases hx:nameB (m.nm j)
     ·go_wp2_with fail
      go_ret
      exact ⟨rtb (by rw[fin.out,HQ.out,st.out,hx];rfl),ob.trans O1⟩
     ·go_wp2_with fail
      go_roundw
      case rel=>exact ⟨j+1,by omega,by go_num,ob.trans O1,by rw[HQ.out,st.out,hx];rfl⟩
      case measure=>simp[intOf];omega
    ·have st:Hid (allB (fun i=>nameB (m.nm i)) j (m.nn-j)=true):=by
      show _=_
      rw[show m.nn-j=0 from by omega];rfl
     go_wp2_with fail
     go_ret
     exact ⟨rtb (by rw[fin.out,HQ.out,st.out]),ob⟩
  ·have fin:Hid (namedP m.toPD least most=false):=by
    show namedP _ _ _=_
    unfold namedP
    rw[decide_eq_false (show¬m.toPD.nn<=most from h2)];simp
   have d1:decide ((m.nn:Int) < (least:Int))=false:=decide_eq_false Zo
   have d1':(least:Int)<=(m.nn:Int):=Zo
   have d2:(most:Int) < (m.nn:Int):=Zo
   clear h1 h2
   go_enter Tryz.func55,Tryz.ntmps55
   exact J153
 ·have fin:Hid (namedP m.toPD least most=false):=by
   show namedP _ _ _=_
   unfold namedP
   rw[decide_eq_false (show¬least<=m.toPD.nn from h1)];simp
  have d1:(m.nn:Int) < (least:Int):=Zo
  clear h1
  go_enter Tryz.func55,Tryz.ntmps55
  exact J153
end Go.Proofs.YtlibofjbhhdjdaaGreat
