import Derived.Test.YtlibofjbhhdjdaaGreatQ
import Derived.Test.YtlibofjbhhdjdaaGreatP40
import Derived.Test.YtlibofjbhhdjdaaGreatP41
import Derived.Test.YtlibofjbhhdjdaaGreatP38
import Derived.Test.YtlibofjbhhdjdaaGreatP39
import Derived.Test.YtlibofjbhhdjdaaGreatP21
import Derived.Test.YtlibofjbhhdjdaaGreatP29
import Derived.Test.YtlibofjbhhdjdaaGreatP26
set_option linter.unusedSimpArgs false
set_option maxRecDepth 100000
set_option maxHeartbeats 16000000
namespace Go.Proofs.YtlibofjbhhdjdaaGreat
open Go.RowKit
attribute [local go_sem] rsf
def rowS (k:Int) (m:PD) (kn:Nat) (q:Nat->Option PX):Bool:=
 if k=1 then usesP m false false false false false&&(standR 1 kn q) else
 if k=2 then declP m 1 200&&(standR 8 kn q) else
 if k=3 then declP m 1 1&&(kidsR [8] kn q) else
 if k=4 then declP m 1 1&&(kidsR [256] kn q) else
 if k=5 then usesP m false true false false false&&(targetsR m kn q) else
 if k=6 then usesP m false false false false false&&(kidsR [32] kn q) else
 if k=16 then usesP m false false false false false&&(kidsR [32] kn q) else
 if k=7 then usesP m false false false false false&&((kidsR [8,2] kn q||kidsR [8,2,4] kn q)) else
 if k=8 then usesP m false false false false false&&(kidsR [8,2] kn q) else
 if k=9 then declP m 1 1&&((kidsR [8,8,2] kn q||kidsR [8,8,8,2] kn q)) else
 if k=10 then declP m 1 200&&(kidsR [8,2] kn q) else
 if k=11 then usesP m false false false false false&&(kidsR [] kn q) else
 if k=12 then usesP m false false false false false&&(kidsR [] kn q) else
 if k=13 then usesP m false false false false false&&(standR 8 kn q) else
 if k=14 then declP m 1 2&&(kidsR [2,2] kn q) else
 if k=15 then usesP m false false false false false&&(kidsR [8] kn q) else
 false
def stB (d:PD) (q:Nat->Option PX):Bool:= @ite _ (slimP d) (slimD d) (rowS d.kind d (knP d) q) false
def rowE (k:Int) (m:PD) (kn:Nat) (q:Nat->Option PX):Bool:=
 if k=20 then usesP m false false false false false&&(kidsR [] kn q) else
 if k=21 then usesP m false false false false false&&(kidsR [] kn q) else
 if k=22 then usesP m false false false false false&&(kidsR [] kn q) else
 if k=23 then usesP m false true false false false&&(kidsR [] kn q) else
 if k=24 then usesP m false false true false false&&(fnum m.flt&&(kidsR [] kn q)) else
 if k=25 then usesP m false false false true false&&(decide ((m.text.size:Int)<=4000)&&(kidsR [] kn q)) else
 if k=26 then usesP m false false false true false&&(nameB m.text&&(kidsR [] kn q)) else
 if k=27 then usesP m false false false false false&&(kidsR [] kn q) else
 if k=28 then usesP m false false false false false&&(kidsR [8,8] kn q) else
 if k=29 then usesP m false false false false false&&(kidsR [8,8] kn q) else
 if k=30 then usesP m true false false false false&&(decide ((19:Int)<=m.op)&&(decide (m.op<=22)&&(kidsR [8] kn q))) else
 if k=31 then usesP m true false false false false&&(decide ((1:Int)<=m.op)&&(decide (m.op<=18)&&(kidsR [8,8] kn q))) else
 if k=32 then usesP m false false false false false&&(kidsR [16,8] kn q) else
 if k=33 then usesP m false false false true false&&(nameB m.text&&(kidsR [16] kn q)) else
 if k=34 then usesP m false false false false false&&((decide ((1:Int)<=kn)&&(standR 16 1 q&&standR 8 (kn-1) (fun i=>q (1+i))))) else
 if k=35 then usesP m false false false false false&&(standR 512 kn q) else
 if k=36 then usesP m true false false false true&&((m.op==0||m.op==1)&&(allB (fun i=>nameB (m.nm i)) 0 m.nn&&(kidsR [2] kn q))) else
 if k=37 then usesP m false false false false false&&(kidsR [64] kn q) else
 false
def exB (d:PD) (q:Nat->Option PX):Bool:= @ite _ (slimP d) (slimD d) (rowE d.kind d (knP d) q) false
def rowN (k:Int) (m:PD) (kn:Nat) (q:Nat->Option PX):Bool:=
 if k=40 then usesP m false false false false false&&(kidsR [8] kn q) else
 if k=41 then usesP m false false false false false&&(kidsR [8,8] kn q) else
 if k=42 then usesP m false false false true false&&(nameB m.text&&(kidsR [8] kn q)) else
 false
def enB (d:PD) (q:Nat->Option PX):Bool:= @ite _ (slimP d) (slimD d) (rowN d.kind d (knP d) q) false
theorem statementFits_any (m:PM)(p:Nat)(kk:Option Addr)(q:Nat->Option PX)(w:World)(hk:ValsAt w kk (knP m.toPD) (fun j=>pv (q j)))(hz:∀i,i < m.nn->(m.nm i).size<=1048576)(htx:m.text.size<=1048576)(hm:StrsAt w m.na m.nn m.nm):
  Calls Tryz.prog 74 #[.iface (ptT m.toPD) (.agg (XA m p kk (knP m.toPD) (knP m.toPD)))] w fun e w'=>e= .returned (.bool (stB m.toPD q))/\Onw w w':=by
 unfold XA
 unfold stB ptT
 by_cases h:slimP m.toPD
 ·rw[if_pos h,if_pos h]
  have hkn:knP m.toPD=m.nk:=J311
  have hn:m.nk<=1048576:=Nat.le_trans h.1 Zo
  have hnn:m.nn<=1048576:=Nat.le_trans h.2 Zo
  rw[hkn] at hk ⊢
  have step:∀K,m.kind=K->(Calls Tryz.prog 74 #[.iface (partT K) (.agg #[.int .i64 p,.int .i64 m.kind,.int .i64 m.frm,.int .i64 m.tto,.int .i64 m.line,.int .i64 m.op,.int .i64 m.num,.float .f64 m.flt,.string m.text,.slice m.na m.nn m.nc,.slice m.ka m.nk m.kc,.slice kk m.nk m.nk])] w fun e w'=>e= .returned (.bool (rowS K m.toPD m.nk q))/\Onw w w')->Calls Tryz.prog 74 #[.iface (partT m.kind) (.agg #[.int .i64 p,.int .i64 m.kind,.int .i64 m.frm,.int .i64 m.tto,.int .i64 m.line,.int .i64 m.op,.int .i64 m.num,.float .f64 m.flt,.string m.text,.slice m.na m.nn m.nc,.slice m.ka m.nk m.kc,.slice kk m.nk m.nk])] w fun e w'=>e= .returned (.bool (rowS m.kind m.toPD m.nk q))/\Onw w w':=by
   intro K h s
   rw[congrArg partT h,congrArg (fun k=>rowS k m.toPD m.nk q) h];exact s
  rcases kinds_all m.kind with h|h|h|h|h|h|h|h|h|h|h|h|h|h|h|h|h|h|h|h|h|h|h|h|h|h|h|h|h|h|h|h|h|h|h|h|h|⟨h,_,h2⟩
  ·exact step _ h (sf_block m p kk _ _ q w ⟨hn,hk,Nat.le_refl _,hnn,hz,htx,hm⟩)
  ·exact step _ h (sf_let m p kk _ _ q w ⟨hn,hk,Nat.le_refl _,hnn,hz,htx,hm⟩)
  ·exact step _ h (sf_const m p kk _ _ q w ⟨hn,hk,Nat.le_refl _,hnn,hz,htx,hm⟩)
  ·exact step _ h (sf_ownFn m p kk _ _ q w ⟨hn,hk,Nat.le_refl _,hnn,hz,htx,hm⟩)
  ·exact step _ h (sf_set m p kk _ _ q w ⟨hn,hk,Nat.le_refl _,hnn,hz,htx,hm⟩)
  ·exact step _ h (sf_do m p kk _ _ q w ⟨hn,hk,Nat.le_refl _,hnn,hz,htx,hm⟩)
  ·exact step _ h (sf_do m p kk _ _ q w ⟨hn,hk,Nat.le_refl _,hnn,hz,htx,hm⟩)
  ·exact step _ h (sf_if m p kk _ _ q w ⟨hn,hk,Nat.le_refl _,hnn,hz,htx,hm⟩)
  ·exact step _ h (sf_while m p kk _ _ q w ⟨hn,hk,Nat.le_refl _,hnn,hz,htx,hm⟩)
  ·exact step _ h (sf_for m p kk _ _ q w ⟨hn,hk,Nat.le_refl _,hnn,hz,htx,hm⟩)
  ·exact step _ h (sf_each m p kk _ _ q w ⟨hn,hk,Nat.le_refl _,hnn,hz,htx,hm⟩)
  ·exact step _ h (sf_jump m p kk _ _ q w ⟨hn,hk,Nat.le_refl _,hnn,hz,htx,hm⟩)
  ·exact step _ h (sf_jump m p kk _ _ q w ⟨hn,hk,Nat.le_refl _,hnn,hz,htx,hm⟩)
  ·exact step _ h (sf_return m p kk _ _ q w ⟨hn,hk,Nat.le_refl _,hnn,hz,htx,hm⟩)
  ·exact step _ h (sf_try m p kk _ _ q w ⟨hn,hk,Nat.le_refl _,hnn,hz,htx,hm⟩)
  ·exact step _ h (sf_throw m p kk _ _ q w ⟨hn,hk,Nat.le_refl _,hnn,hz,htx,hm⟩)
  ·exact step _ h (sf_no (t:=181) Zb m p kk _ _ w)
  ·exact step _ h (sf_no (t:=181) Zb m p kk _ _ w)
  ·exact step _ h (sf_no (t:=181) Zb m p kk _ _ w)
  ·exact step _ h (sf_no (t:=183) Zb m p kk _ _ w)
  ·exact step _ h (sf_no (t:=184) Zb m p kk _ _ w)
  ·exact step _ h (sf_no (t:=186) Zb m p kk _ _ w)
  ·exact step _ h (sf_no (t:=141) Zb m p kk _ _ w)
  ·exact step _ h (sf_no (t:=182) Zb m p kk _ _ w)
  ·exact step _ h (sf_no (t:=187) Zb m p kk _ _ w)
  ·exact step _ h (sf_no (t:=187) Zb m p kk _ _ w)
  ·exact step _ h (sf_no (t:=188) Zb m p kk _ _ w)
  ·exact step _ h (sf_no (t:=189) Zb m p kk _ _ w)
  ·exact step _ h (sf_no (t:=190) Zb m p kk _ _ w)
  ·exact step _ h (sf_no (t:=191) Zb m p kk _ _ w)
  ·exact step _ h (sf_no (t:=192) Zb m p kk _ _ w)
  ·exact step _ h (sf_no (t:=193) Zb m p kk _ _ w)
  ·exact step _ h (sf_no (t:=140) Zb m p kk _ _ w)
  ·exact step _ h (sf_no (t:=195) Zb m p kk _ _ w)
  ·exact step _ h (sf_no (t:=198) Zb m p kk _ _ w)
  ·exact step _ h (sf_no (t:=199) Zb m p kk _ _ w)
  ·exact step _ h (sf_no (t:=200) Zb m p kk _ _ w)
  ·have e:rowS m.kind m.toPD m.nk q=false:=by
    obtain ⟨e1,e2,e3,e4,e5,e6,e16,e7,e8,e9,e10,e11,e12,e13,e14,e15,e20,e21,e22,e23,e24,e25,e26,e27,e28,e29,e30,e31,e32,e33,e34,e35,e36,e37,e40,e41,e42⟩:=h2
    unfold rowS;rw[if_neg e1,if_neg e2,if_neg e3,if_neg e4,if_neg e5,if_neg e6,if_neg e16,if_neg e7,if_neg e8,if_neg e9,if_neg e10,if_neg e11,if_neg e12,if_neg e13,if_neg e14,if_neg e15]
   rw[h,e];exact sf_no (t:=144) Zb m p kk _ _ w
 ·rw[if_neg h,if_neg h];exact sf_no (t:=144) Zb m p kk _ _ w
theorem expressionFits_any (m:PM)(p:Nat)(kk:Option Addr)(q:Nat->Option PX)(w:World)(hk:ValsAt w kk (knP m.toPD) (fun j=>pv (q j)))(hz:∀i,i < m.nn->(m.nm i).size<=1048576)(htx:m.text.size<=1048576)(hm:StrsAt w m.na m.nn m.nm):
  Calls Tryz.prog 75 #[.iface (ptT m.toPD) (.agg (XA m p kk (knP m.toPD) (knP m.toPD)))] w fun e w'=>e= .returned (.bool (exB m.toPD q))/\Onw w w':=by
 unfold XA
 unfold exB ptT
 by_cases h:slimP m.toPD
 ·rw[if_pos h,if_pos h]
  have hkn:knP m.toPD=m.nk:=J311
  have hn:m.nk<=1048576:=Nat.le_trans h.1 Zo
  have hnn:m.nn<=1048576:=Nat.le_trans h.2 Zo
  rw[hkn] at hk ⊢
  have step:∀K,m.kind=K->(Calls Tryz.prog 75 #[.iface (partT K) (.agg #[.int .i64 p,.int .i64 m.kind,.int .i64 m.frm,.int .i64 m.tto,.int .i64 m.line,.int .i64 m.op,.int .i64 m.num,.float .f64 m.flt,.string m.text,.slice m.na m.nn m.nc,.slice m.ka m.nk m.kc,.slice kk m.nk m.nk])] w fun e w'=>e= .returned (.bool (rowE K m.toPD m.nk q))/\Onw w w')->Calls Tryz.prog 75 #[.iface (partT m.kind) (.agg #[.int .i64 p,.int .i64 m.kind,.int .i64 m.frm,.int .i64 m.tto,.int .i64 m.line,.int .i64 m.op,.int .i64 m.num,.float .f64 m.flt,.string m.text,.slice m.na m.nn m.nc,.slice m.ka m.nk m.kc,.slice kk m.nk m.nk])] w fun e w'=>e= .returned (.bool (rowE m.kind m.toPD m.nk q))/\Onw w w':=by
   intro K h s
   rw[congrArg partT h,congrArg (fun k=>rowE k m.toPD m.nk q) h];exact s
  rcases kinds_all m.kind with h|h|h|h|h|h|h|h|h|h|h|h|h|h|h|h|h|h|h|h|h|h|h|h|h|h|h|h|h|h|h|h|h|h|h|h|h|⟨h,_,h2⟩
  ·exact step _ h (ef_no (t:=129) Zb m p kk _ _ w)
  ·exact step _ h (ef_no (t:=131) Zb m p kk _ _ w)
  ·exact step _ h (ef_no (t:=133) Zb m p kk _ _ w)
  ·exact step _ h (ef_no (t:=134) Zb m p kk _ _ w)
  ·exact step _ h (ef_no (t:=173) Zb m p kk _ _ w)
  ·exact step _ h (ef_no (t:=175) Zb m p kk _ _ w)
  ·exact step _ h (ef_no (t:=175) Zb m p kk _ _ w)
  ·exact step _ h (ef_no (t:=176) Zb m p kk _ _ w)
  ·exact step _ h (ef_no (t:=177) Zb m p kk _ _ w)
  ·exact step _ h (ef_no (t:=135) Zb m p kk _ _ w)
  ·exact step _ h (ef_no (t:=136) Zb m p kk _ _ w)
  ·exact step _ h (ef_no (t:=178) Zb m p kk _ _ w)
  ·exact step _ h (ef_no (t:=178) Zb m p kk _ _ w)
  ·exact step _ h (ef_no (t:=179) Zb m p kk _ _ w)
  ·exact step _ h (ef_no (t:=137) Zb m p kk _ _ w)
  ·exact step _ h (ef_no (t:=180) Zb m p kk _ _ w)
  ·exact step _ h (ef_bare m p kk _ _ q w ⟨hn,hk,Nat.le_refl _,hnn,hz,htx,hm⟩)
  ·exact step _ h (ef_bare m p kk _ _ q w ⟨hn,hk,Nat.le_refl _,hnn,hz,htx,hm⟩)
  ·exact step _ h (ef_bare m p kk _ _ q w ⟨hn,hk,Nat.le_refl _,hnn,hz,htx,hm⟩)
  ·exact step _ h (ef_int m p kk _ _ q w ⟨hn,hk,Nat.le_refl _,hnn,hz,htx,hm⟩)
  ·exact step _ h (ef_flt m p kk _ _ q w ⟨hn,hk,Nat.le_refl _,hnn,hz,htx,hm⟩)
  ·exact step _ h (ef_str m p kk _ _ q w ⟨hn,hk,Nat.le_refl _,hnn,hz,htx,hm⟩)
  ·exact step _ h (ef_name m p kk _ _ q w ⟨hn,hk,Nat.le_refl _,hnn,hz,htx,hm⟩)
  ·exact step _ h (ef_rest m p kk _ _ q w ⟨hn,hk,Nat.le_refl _,hnn,hz,htx,hm⟩)
  ·exact step _ h (ef_either m p kk _ _ q w ⟨hn,hk,Nat.le_refl _,hnn,hz,htx,hm⟩)
  ·exact step _ h (ef_either m p kk _ _ q w ⟨hn,hk,Nat.le_refl _,hnn,hz,htx,hm⟩)
  ·exact step _ h (ef_unary m p kk _ _ q w ⟨hn,hk,Nat.le_refl _,hnn,hz,htx,hm⟩)
  ·exact step _ h (ef_binary m p kk _ _ q w ⟨hn,hk,Nat.le_refl _,hnn,hz,htx,hm⟩)
  ·exact step _ h (ef_index m p kk _ _ q w ⟨hn,hk,Nat.le_refl _,hnn,hz,htx,hm⟩)
  ·exact step _ h (ef_field m p kk _ _ q w ⟨hn,hk,Nat.le_refl _,hnn,hz,htx,hm⟩)
  ·exact step _ h (ef_call m p kk _ _ q w ⟨hn,hk,Nat.le_refl _,hnn,hz,htx,hm⟩)
  ·exact step _ h (ef_table m p kk _ _ q w ⟨hn,hk,Nat.le_refl _,hnn,hz,htx,hm⟩)
  ·exact step _ h (ef_fn m p kk _ _ q w ⟨hn,hk,Nat.le_refl _,hnn,hz,htx,hm⟩)
  ·exact step _ h (ef_one m p kk _ _ q w ⟨hn,hk,Nat.le_refl _,hnn,hz,htx,hm⟩)
  ·exact step _ h (ef_no (t:=198) Zb m p kk _ _ w)
  ·exact step _ h (ef_no (t:=199) Zb m p kk _ _ w)
  ·exact step _ h (ef_no (t:=200) Zb m p kk _ _ w)
  ·have e:rowE m.kind m.toPD m.nk q=false:=by
    obtain ⟨e1,e2,e3,e4,e5,e6,e16,e7,e8,e9,e10,e11,e12,e13,e14,e15,e20,e21,e22,e23,e24,e25,e26,e27,e28,e29,e30,e31,e32,e33,e34,e35,e36,e37,e40,e41,e42⟩:=h2
    unfold rowE;rw[if_neg e20,if_neg e21,if_neg e22,if_neg e23,if_neg e24,if_neg e25,if_neg e26,if_neg e27,if_neg e28,if_neg e29,if_neg e30,if_neg e31,if_neg e32,if_neg e33,if_neg e34,if_neg e35,if_neg e36,if_neg e37]
   rw[h,e];exact ef_no (t:=144) Zb m p kk _ _ w
 ·rw[if_neg h,if_neg h];exact ef_no (t:=144) Zb m p kk _ _ w
theorem entryFits_any (m:PM)(p:Nat)(kk:Option Addr)(q:Nat->Option PX)(w:World)(hk:ValsAt w kk (knP m.toPD) (fun j=>pv (q j)))(hz:∀i,i < m.nn->(m.nm i).size<=1048576)(htx:m.text.size<=1048576)(hm:StrsAt w m.na m.nn m.nm):
  Calls Tryz.prog 76 #[.iface (ptT m.toPD) (.agg (XA m p kk (knP m.toPD) (knP m.toPD)))] w fun e w'=>e= .returned (.bool (enB m.toPD q))/\Onw w w':=by
 unfold XA
 unfold enB ptT
 by_cases h:slimP m.toPD
 ·rw[if_pos h,if_pos h]
  have hkn:knP m.toPD=m.nk:=J311
  have hn:m.nk<=1048576:=Nat.le_trans h.1 Zo
  have hnn:m.nn<=1048576:=Nat.le_trans h.2 Zo
  rw[hkn] at hk ⊢
  have step:∀K,m.kind=K->(Calls Tryz.prog 76 #[.iface (partT K) (.agg #[.int .i64 p,.int .i64 m.kind,.int .i64 m.frm,.int .i64 m.tto,.int .i64 m.line,.int .i64 m.op,.int .i64 m.num,.float .f64 m.flt,.string m.text,.slice m.na m.nn m.nc,.slice m.ka m.nk m.kc,.slice kk m.nk m.nk])] w fun e w'=>e= .returned (.bool (rowN K m.toPD m.nk q))/\Onw w w')->Calls Tryz.prog 76 #[.iface (partT m.kind) (.agg #[.int .i64 p,.int .i64 m.kind,.int .i64 m.frm,.int .i64 m.tto,.int .i64 m.line,.int .i64 m.op,.int .i64 m.num,.float .f64 m.flt,.string m.text,.slice m.na m.nn m.nc,.slice m.ka m.nk m.kc,.slice kk m.nk m.nk])] w fun e w'=>e= .returned (.bool (rowN m.kind m.toPD m.nk q))/\Onw w w':=by
   intro K h s
   rw[congrArg partT h,congrArg (fun k=>rowN k m.toPD m.nk q) h];exact s
  rcases kinds_all m.kind with h|h|h|h|h|h|h|h|h|h|h|h|h|h|h|h|h|h|h|h|h|h|h|h|h|h|h|h|h|h|h|h|h|h|h|h|h|⟨h,_,h2⟩
  ·exact step _ h (nf_no (t:=129) Zb m p kk _ _ w)
  ·exact step _ h (nf_no (t:=131) Zb m p kk _ _ w)
  ·exact step _ h (nf_no (t:=133) Zb m p kk _ _ w)
  ·exact step _ h (nf_no (t:=134) Zb m p kk _ _ w)
  ·exact step _ h (nf_no (t:=173) Zb m p kk _ _ w)
  ·exact step _ h (nf_no (t:=175) Zb m p kk _ _ w)
  ·exact step _ h (nf_no (t:=175) Zb m p kk _ _ w)
  ·exact step _ h (nf_no (t:=176) Zb m p kk _ _ w)
  ·exact step _ h (nf_no (t:=177) Zb m p kk _ _ w)
  ·exact step _ h (nf_no (t:=135) Zb m p kk _ _ w)
  ·exact step _ h (nf_no (t:=136) Zb m p kk _ _ w)
  ·exact step _ h (nf_no (t:=178) Zb m p kk _ _ w)
  ·exact step _ h (nf_no (t:=178) Zb m p kk _ _ w)
  ·exact step _ h (nf_no (t:=179) Zb m p kk _ _ w)
  ·exact step _ h (nf_no (t:=137) Zb m p kk _ _ w)
  ·exact step _ h (nf_no (t:=180) Zb m p kk _ _ w)
  ·exact step _ h (nf_no (t:=181) Zb m p kk _ _ w)
  ·exact step _ h (nf_no (t:=181) Zb m p kk _ _ w)
  ·exact step _ h (nf_no (t:=181) Zb m p kk _ _ w)
  ·exact step _ h (nf_no (t:=183) Zb m p kk _ _ w)
  ·exact step _ h (nf_no (t:=184) Zb m p kk _ _ w)
  ·exact step _ h (nf_no (t:=186) Zb m p kk _ _ w)
  ·exact step _ h (nf_no (t:=141) Zb m p kk _ _ w)
  ·exact step _ h (nf_no (t:=182) Zb m p kk _ _ w)
  ·exact step _ h (nf_no (t:=187) Zb m p kk _ _ w)
  ·exact step _ h (nf_no (t:=187) Zb m p kk _ _ w)
  ·exact step _ h (nf_no (t:=188) Zb m p kk _ _ w)
  ·exact step _ h (nf_no (t:=189) Zb m p kk _ _ w)
  ·exact step _ h (nf_no (t:=190) Zb m p kk _ _ w)
  ·exact step _ h (nf_no (t:=191) Zb m p kk _ _ w)
  ·exact step _ h (nf_no (t:=192) Zb m p kk _ _ w)
  ·exact step _ h (nf_no (t:=193) Zb m p kk _ _ w)
  ·exact step _ h (nf_no (t:=140) Zb m p kk _ _ w)
  ·exact step _ h (nf_no (t:=195) Zb m p kk _ _ w)
  ·exact step _ h (nf_item m p kk _ _ q w ⟨hn,hk,Nat.le_refl _,hnn,hz,htx,hm⟩)
  ·exact step _ h (nf_pair m p kk _ _ q w ⟨hn,hk,Nat.le_refl _,hnn,hz,htx,hm⟩)
  ·exact step _ h (nf_named m p kk _ _ q w ⟨hn,hk,Nat.le_refl _,hnn,hz,htx,hm⟩)
  ·have e:rowN m.kind m.toPD m.nk q=false:=by
    obtain ⟨e1,e2,e3,e4,e5,e6,e16,e7,e8,e9,e10,e11,e12,e13,e14,e15,e20,e21,e22,e23,e24,e25,e26,e27,e28,e29,e30,e31,e32,e33,e34,e35,e36,e37,e40,e41,e42⟩:=h2
    unfold rowN;rw[if_neg e40,if_neg e41,if_neg e42]
   rw[h,e];exact nf_no (t:=144) Zb m p kk _ _ w
 ·rw[if_neg h,if_neg h];exact nf_no (t:=144) Zb m p kk _ _ w
theorem field_part (v0 v1 v2 v3 v4 v5 v6 v7 v8 v9 v10 v11:Value)(w:World):Sem.run Tryz.prog (Instr.field 104 (.agg #[v0,v1,v2,v3,v4,v5,v6,v7,v8,v9,v10,v11]) 1) w= .ok (.agg #[v1,v2,v3,v4,v5,v6,v7,v8,v9,v10]) w:=by kernel_rfl
theorem field_kids (v0 v1 v2 v3 v4 v5 v6 v7 v8 v9 v10:Value)(a:Option Addr)(n c:Nat)(w:World):Sem.run Tryz.prog (Instr.field 104 (.agg #[v0,v1,v2,v3,v4,v5,v6,v7,v8,v9,v10,.slice a n c]) 2) w= .ok (.slice a n c) w:=by kernel_rfl
theorem field_place (v1 v2 v3 v4 v5 v6 v7 v8 v9 v10 v11:Value)(p:Int)(w:World):Sem.run Tryz.prog (Instr.field 104 (.agg #[.int .i64 p,v1,v2,v3,v4,v5,v6,v7,v8,v9,v10,v11]) 0) w= .ok (.int .i64 p) w:=by kernel_rfl
theorem call_least_s (v:Value)(w:World):Sem.run Tryz.prog (callFunc 156 #[v]) w= .ok (.enter 156 #[v]) w:=by kernel_rfl
theorem call_least_p (v:Value)(w:World):Sem.run Tryz.prog (callFunc 153 #[v]) w= .ok (.enter 153 #[v]) w:=by kernel_rfl
def leastP (d:PD):Int:= @ite _ (slimP d) (slimD d) (if statP d.kind then 1 else 0) 0
theorem least_cases (d:PD):leastFn d=156/\leastP d=1\/leastFn d=153/\leastP d=0:=by
 unfold leastFn leastP leastK
 by_cases h:slimP d
 ·rw[if_pos h,if_pos h]
  by_cases k:1<=d.kind/\d.kind<=16
  ·exact Or.inl ⟨if_pos k,if_pos (by unfold statP;simp;omega)⟩
  ·exact Or.inr ⟨if_neg k,if_neg (by unfold statP;simp;omega)⟩
 ·rw[if_neg h,if_neg h];exact Or.inr ⟨rfl,rfl⟩
theorem call_least (d:PD)(v:Value)(w:World):Sem.run Tryz.prog (callFunc (leastFn d) #[v]) w= .ok (.enter (leastFn d) #[v]) w:=by
 rcases least_cases d with ⟨h,_⟩|⟨h,_⟩
 ·rw[h];exact call_least_s v w
 ·rw[h];exact call_least_p v w
theorem least_any (m:PM)(p:Int)(kk:Option Addr)(kn kc:Nat)(w:World):
  Calls Tryz.prog (leastFn m.toPD) #[.agg (XA m p kk kn kc)] w fun e w'=>e= .returned (.int .i64 (leastP m.toPD))/\Onw w w':=by
 unfold XA
 rcases least_cases m.toPD with ⟨h,h2⟩|⟨h,h2⟩
 ·rw[h,h2];exact leastLine_statementHeader m p kk kn kc w
 ·rw[h,h2];exact leastLine_partHeader m p kk kn kc w
def placeP (d:PD):Bool:=decide (0<=d.frm)&&(decide (d.frm<=d.tto)&&(decide (leastP d<=d.line)&&decide (d.line<=100000)))
theorem placeFits_any (m:PM)(p:Int)(kk:Option Addr)(kn kc:Nat)(w:World):
  Calls Tryz.prog 73 #[.iface (ptT m.toPD) (.agg (XA m p kk kn kc))] w fun e w'=>e= .returned (.bool (placeP m.toPD))/\Onw w w':=by
 unfold XA
 have fin:Hid (placeP m.toPD=(decide (0<=m.frm)&&(decide (m.frm<=m.tto)&&(decide (leastP m.toPD<=m.line)&&decide (m.line<=100000))))):=rfl
 have mt:=meth_top m.toPD
 unfold MethOk at mt
 have ml:=meth_leastLine m.toPD
 unfold MethOk at ml
 have fp:=field_part
 rcases least_cases m.toPD with ⟨e1,e2⟩|⟨e1,e2⟩
 ·rw[e2] at fin
  rw[e1] at ml
  clear e1 e2
  go_enter Tryz.func73,Tryz.ntmps73
  go_wp2_with fail
  refine (top_any m p kk kn kc _).mono ?_
  rintro e w1 ⟨rfl,hb1⟩
  have B:=Blk.new w1 67 #[.int .i64 m.kind,.int .i64 m.frm,.int .i64 m.tto,.int .i64 m.line,.int .i64 m.op,.int .i64 m.num,.float .f64 m.flt,.string m.text,.slice m.na m.nn m.nc,.slice m.ka m.nk m.kc]
  have O:=hb1.trans (Onw.alloc w1 (Obj.cells #[.int .i64 m.kind,.int .i64 m.frm,.int .i64 m.tto,.int .i64 m.line,.int .i64 m.op,.int .i64 m.num,.float .f64 m.flt,.string m.text,.slice m.na m.nn m.nc,.slice m.ka m.nk m.kc] 67))
  go_wp2_with fail
  generalize w1.alloc (Obj.cells #[.int .i64 m.kind,.int .i64 m.frm,.int .i64 m.tto,.int .i64 m.line,.int .i64 m.op,.int .i64 m.num,.float .f64 m.flt,.string m.text,.slice m.na m.nn m.nc,.slice m.ka m.nk m.kc] 67)=w2 at*
  have c1:=Blk.at_ B 1 rfl
  have c2:=Blk.at_ B 2 rfl
  have c3:=Blk.at_ B 3 rfl
  by_cases h1:0<=m.frm
  ·have d1:=decide_eq_true h1
   by_cases h2:m.frm<=m.tto
   ·have d2:=decide_eq_true h2
    by_cases h3:(1:Int)<=m.line
    ·have d3:=decide_eq_true h3
     go_region_held3 (fun w'=>w'.cell? ⟨w1.heap.size,1,none⟩=some (.int .i64 m.frm)/\w'.cell? ⟨w1.heap.size,2,none⟩=some (.int .i64 m.tto)/\w'.cell? ⟨w1.heap.size,3,none⟩=some (.int .i64 m.line)) (go_keep)
      (first|(go_at_call 156;refine (leastLine_statementHeader m p kk kn kc _).mono ?_;rintro e w3 ⟨rfl,hb2⟩;have O1:Onw w2 w3:=Onw.trans (Below.drew (Onw.refl _)) hb2;have q1:=con O1 c1;have q2:=con O1 c2;have q3:=con O1 c3))
     all_goals
      go_wp2_with fail
      go_ret
      exact ⟨rtb J310,by first|exact O.trans O1|exact Below.drew (O.trans O1)⟩
    ·have d3:=decide_eq_false h3
     first
      |(go_region_with (first|(go_at_call 156;refine (leastLine_statementHeader m p kk kn kc _).mono ?_;rintro e w3 ⟨rfl,hb2⟩;have O1:Onw w2 w3:=Onw.trans (Below.drew (Onw.refl _)) hb2;have q1:=con O1 c1;have q2:=con O1 c2;have q3:=con O1 c3)))
      |fail
     all_goals
      go_wp2_with fail
      go_ret
      exact ⟨rtb J310,by first|exact O.trans O1|exact Below.drew (O.trans O1)⟩
   ·exact J134
  ·exact J144
 ·rw[e2] at fin
  rw[e1] at ml
  clear e1 e2
  go_enter Tryz.func73,Tryz.ntmps73
  go_wp2_with fail
  refine (top_any m p kk kn kc _).mono ?_
  rintro e w1 ⟨rfl,hb1⟩
  have B:=Blk.new w1 67 #[.int .i64 m.kind,.int .i64 m.frm,.int .i64 m.tto,.int .i64 m.line,.int .i64 m.op,.int .i64 m.num,.float .f64 m.flt,.string m.text,.slice m.na m.nn m.nc,.slice m.ka m.nk m.kc]
  have O:=hb1.trans (Onw.alloc w1 (Obj.cells #[.int .i64 m.kind,.int .i64 m.frm,.int .i64 m.tto,.int .i64 m.line,.int .i64 m.op,.int .i64 m.num,.float .f64 m.flt,.string m.text,.slice m.na m.nn m.nc,.slice m.ka m.nk m.kc] 67))
  go_wp2_with fail
  generalize w1.alloc (Obj.cells #[.int .i64 m.kind,.int .i64 m.frm,.int .i64 m.tto,.int .i64 m.line,.int .i64 m.op,.int .i64 m.num,.float .f64 m.flt,.string m.text,.slice m.na m.nn m.nc,.slice m.ka m.nk m.kc] 67)=w2 at*
  have c1:=Blk.at_ B 1 rfl
  have c2:=Blk.at_ B 2 rfl
  have c3:=Blk.at_ B 3 rfl
  by_cases h1:0<=m.frm
  ·have d1:=decide_eq_true h1
   by_cases h2:m.frm<=m.tto
   ·have d2:=decide_eq_true h2
    by_cases h3:(0:Int)<=m.line
    ·have d3:=decide_eq_true h3
     go_region_held3 (fun w'=>w'.cell? ⟨w1.heap.size,1,none⟩=some (.int .i64 m.frm)/\w'.cell? ⟨w1.heap.size,2,none⟩=some (.int .i64 m.tto)/\w'.cell? ⟨w1.heap.size,3,none⟩=some (.int .i64 m.line)) (go_keep)
      (first|(go_at_call 153;refine (leastLine_partHeader m p kk kn kc _).mono ?_;rintro e w3 ⟨rfl,hb2⟩;have O1:Onw w2 w3:=Onw.trans (Below.drew (Onw.refl _)) hb2;have q1:=con O1 c1;have q2:=con O1 c2;have q3:=con O1 c3))
     all_goals
      go_wp2_with fail
      go_ret
      exact ⟨rtb J310,by first|exact O.trans O1|exact Below.drew (O.trans O1)⟩
    ·have d3:=decide_eq_false h3
     first
      |(go_region_with (first|(go_at_call 153;refine (leastLine_partHeader m p kk kn kc _).mono ?_;rintro e w3 ⟨rfl,hb2⟩;have O1:Onw w2 w3:=Onw.trans (Below.drew (Onw.refl _)) hb2;have q1:=con O1 c1;have q2:=con O1 c2;have q3:=con O1 c3)))
      |fail
     all_goals
      go_wp2_with fail
      go_ret
      exact ⟨rtb J310,by first|exact O.trans O1|exact Below.drew (O.trans O1)⟩
   ·exact J134
  ·exact J144
def rowI (pm:Nat->PM) (pk:Nat->Option Addr) (i:Nat):Bool:=
 placeP (pm i).toPD&&(stB (pm i).toPD (kidX (pm i).toPD (pxOf pm pk) i)||(exB (pm i).toPD (kidX (pm i).toPD (pxOf pm pk) i)||enB (pm i).toPD (kidX (pm i).toPD (pxOf pm pk) i)))
def optI:Option Nat->Int
 |some n=>n
 |none=> -1
theorem firstOffRow_any (np lo ab:Nat)(pm:Nat->PM)(pk:Nat->Option Addr)(pa:Option Addr)(w:World)(hn:np<=1048576)(hs:∀i,i < np->(pm i).Slight)(ha:PartsAt w pa np pm)(hP:PiecesAt w lo ab np pm pk):
  Calls Tryz.prog 46 #[.slice (some ⟨ab,0,none⟩) np np] w fun e w'=>e= .returned (.int .i64 (optI (firstBad (rowI pm pk) 0 np)))/\Onw w w':=by
 have HA:Hid _:=ha
 have HP:Hid _:=hP
 have HS:Hid _:=hs
 clear ha hP hs
 go_enter Tryz.func46,Tryz.ntmps46
 go_wp2_with fail
 go_loopw [7] (fun i wr=>∃k:Nat,k<=np/\i= .int .i64 k/\Onw w wr/\firstBad (rowI pm pk) 0 np=firstBad (rowI pm pk) k (np-k)) (fun i _=>np-(intOf i).toNat)
 case atStart=>exact ⟨0,Nat.zero_le _,rfl,Onw.refl _,rfl⟩
 case round=>
  obtain ⟨k,hk,rfl,ob,hq⟩:=hrel
  have HQ:Hid _:=hq
  clear hq
  by_cases hlt:k < np
  ·obtain ⟨h1,hV,_⟩:=PiecesAt.onw ob HP.out k hlt
   have c0:wr.cell? ⟨ab,k,none⟩=some (.iface (ptT (pm k).toPD) (.agg #[.int .i64 (k:Nat),.int .i64 (pm k).kind,.int .i64 (pm k).frm,.int .i64 (pm k).tto,.int .i64 (pm k).line,.int .i64 (pm k).op,.int .i64 (pm k).num,.float .f64 (pm k).flt,.string (pm k).text,.slice (pm k).na (pm k).nn (pm k).nc,.slice (pm k).ka (pm k).nk (pm k).kc,.slice (pk k) (knP (pm k).toPD) (knP (pm k).toPD)])):=h1
   have hz:Hid (∀i,i < (pm k).nn->((pm k).nm i).size<=1048576):=(HS.out k hlt).2.2.2
   have htx:Hid ((pm k).text.size<=1048576):=(HS.out k hlt).2.2.1
   have hM:Hid (StrsAt wr (pm k).na (pm k).nn (pm k).nm):=((PartsAt.onw ob HA.out).2 k hlt).1
   have HV:Hid _:=hV
   have zb:=clt c0
   clear h1 hV
   have bad:Hid (rowI pm pk k=false->firstBad (rowI pm pk) 0 np=some k):=fun h=>by rw[HQ.out,firstBad_bad hlt h]
   have good:Hid (rowI pm pk k=true->firstBad (rowI pm pk) 0 np=firstBad (rowI pm pk) (k+1) (np-(k+1))):=fun h=>by rw[HQ.out,firstBad_ok hlt h]
   have E:Hid (rowI pm pk k=(placeP (pm k).toPD&&(stB (pm k).toPD (kidX (pm k).toPD (pxOf pm pk) k)||(exB (pm k).toPD (kidX (pm k).toPD (pxOf pm pk) k)||enB (pm k).toPD (kidX (pm k).toPD (pxOf pm pk) k))))):=rfl
   go_wp2_with fail
   refine (placeFits_any (pm k) k (pk k) _ _ _).mono ?_
   rintro e w1 ⟨rfl,b1⟩
   cases x1:placeP (pm k).toPD
   ·go_wp2_with fail
    go_ret
    exact ⟨ret_int (by rw[bad.out (by rw[E.out,x1];rfl)];rfl),ob.trans b1⟩
   ·go_wp2_with fail
    refine (statementFits_any (pm k) k (pk k) (kidX (pm k).toPD (pxOf pm pk) k) _ (ValsAt.onw b1 HV.out) hz.out htx.out (StrsAt.onw b1 hM.out)).mono ?_
    rintro e w2 ⟨rfl,b2⟩
    replace b2:=b1.trans b2
    cases x2:stB (pm k).toPD (kidX (pm k).toPD (pxOf pm pk) k)
    ·go_wp2_with fail
     refine (expressionFits_any (pm k) k (pk k) (kidX (pm k).toPD (pxOf pm pk) k) _ (ValsAt.onw b2 HV.out) hz.out htx.out (StrsAt.onw b2 hM.out)).mono ?_
     rintro e w3 ⟨rfl,b3⟩
     replace b3:=b2.trans b3
     cases x3:exB (pm k).toPD (kidX (pm k).toPD (pxOf pm pk) k)
     ·go_wp2_with fail
      refine (entryFits_any (pm k) k (pk k) (kidX (pm k).toPD (pxOf pm pk) k) _ (ValsAt.onw b3 HV.out) hz.out htx.out (StrsAt.onw b3 hM.out)).mono ?_
      rintro e w4 ⟨rfl,b4⟩
      replace b4:=b3.trans b4
      cases x4:enB (pm k).toPD (kidX (pm k).toPD (pxOf pm pk) k)
      ·go_wp2_with fail
       go_ret
       exact ⟨ret_int (by rw[bad.out (by rw[E.out,x1,x2,x3,x4];rfl)];rfl),ob.trans b4⟩
      ·go_wp2_with fail
       go_roundw
       case rel=>exact ⟨k+1,by omega,by go_num,ob.trans b4,good.out (by rw[E.out,x1,x2,x3,x4];rfl)⟩
       case measure=>simp[intOf];omega
     ·go_wp2_with fail
      go_roundw
      case rel=>exact ⟨k+1,by omega,by go_num,ob.trans b3,good.out (by rw[E.out,x1,x2,x3];rfl)⟩
      case measure=>simp[intOf];omega
    ·go_wp2_with fail
     go_roundw
     case rel=>exact ⟨k+1,by omega,by go_num,ob.trans b2,good.out (by rw[E.out,x1,x2];rfl)⟩
     case measure=>simp[intOf];omega
  ·go_wp2_with fail
   go_ret
   exact ⟨ret_int (by rw[HQ.out,firstBad_end hlt];rfl),ob⟩
end Go.Proofs.YtlibofjbhhdjdaaGreat
