import Derived.Test.YtlibofjbhhdjdaaGreatQ
import Derived.Test.YtlibofjbhhdjdaaGreatP00
set_option linter.unusedSimpArgs false
set_option maxRecDepth 100000
set_option maxHeartbeats 16000000
namespace Go.Proofs.YtlibofjbhhdjdaaGreat
open Go.RowKit
attribute [local go_sem] rsf
variable {cur:Array Value} {B g:Nat} {p:Nat->Prop} {m:PM} {w w':World}
theorem toPart_any (m:PM)(w:World)(hr:m.nn<=1048576)(hk:m.nk<=1048576)(ha:m.At w):
  Calls Tryz.prog 27 #[.agg #[.int .i64 m.kind,.int .i64 m.frm,.int .i64 m.tto,.int .i64 m.line,.int .i64 m.op,.int .i64 m.num,.float .f64 m.flt,.string m.text,.slice m.na m.nn m.nc,.slice m.ka m.nk m.kc]] w fun e w'=>∃a' a'',e= .returned (.agg #[.int .i64 m.kind,.int .i64 m.frm,.int .i64 m.tto,.int .i64 m.line,.int .i64 m.op,.int .i64 m.num,.float .f64 m.flt,.string m.text,.slice a' m.nn m.nn,.slice a'' m.nk m.nk])/\Onw w w'/\StrsAt w' a' m.nn m.nm/\IntsAt w' a'' m.nk m.kd/\Frm w.heap.size a'/\Frm w.heap.size a'':=by
 obtain ⟨a1,a2⟩:=ha
 go_enter Tryz.func27,Tryz.ntmps27
 go_wp2_with fail
 have o3:=((Onw.alloc w (Obj.cells #[.int .i64 m.kind,.int .i64 m.frm,.int .i64 m.tto,.int .i64 m.line,.int .i64 m.op,.int .i64 m.num,.float .f64 m.flt,.string m.text,.slice m.na m.nn m.nc,.slice m.ka m.nk m.kc] 66)).trans (Onw.alloc _ (Obj.cells #[.int .i64 0,.int .i64 0,.int .i64 0,.int .i64 0,.int .i64 0,.int .i64 0,.float .f64 0,.string ByteArray.empty,.slice none 0 0,.slice none 0 0] 67))).trans (Onw.alloc _ (Obj.cells #[.int .i64 m.kind,.int .i64 m.frm,.int .i64 m.tto,.int .i64 m.line,.int .i64 m.op,.int .i64 m.num,.float .f64 m.flt,.string m.text,.slice none 0 0,.slice none 0 0] 67))
 refine (toStringS_any _ _ _ m.nm _ hr (by exact a1.onw o3)).mono ?_
 rintro e w1 ⟨a',rfl,hb1,hi1,hf1⟩
 have ob:Onw w w1:=Onw.trans o3 hb1
 have B0:=(Blk.new w 66 #[.int .i64 m.kind,.int .i64 m.frm,.int .i64 m.tto,.int .i64 m.line,.int .i64 m.op,.int .i64 m.num,.float .f64 m.flt,.string m.text,.slice m.na m.nn m.nc,.slice m.ka m.nk m.kc]).onw (((Onw.alloc _ _).trans (Onw.alloc _ _)).trans hb1)
 have B1:=Blk.onw ((Onw.alloc _ _).trans hb1) (Blk.new _ 67 _)
 have B2:=Blk.onw hb1 (Blk.new _ 67 _)
 have hz:w.heap.size+1+1 < w1.heap.size:=J299
 simp only[World.size_alloc] at B1 B2 hf1
 clear hb1 o3
 have c0:=B0.cell
 have c2:=B2.cell
 have f2:=B2.free
 go_wp2_with fail
 have ob2:Onw w (w1.setCell ⟨w.heap.size+1+1,8,none⟩ (.slice a' m.nn m.nn)):=Below.setCell ob Zj _
 have B0':=Blk.kept (ksc w1 (w.heap.size+1+1) 8 (.slice a' m.nn m.nn)) Zo B0
 have B1':=Blk.kept (ksc w1 (w.heap.size+1+1) 8 (.slice a' m.nn m.nn)) Zo B1
 have B2':=B2.set 8 (.slice a' m.nn m.nn)
 have hi1':=hi1.kept (ksc w1 (w.heap.size+1+1) 8 (.slice a' m.nn m.nn)) (fun x hx=>by have:=hf1 x hx;omega)
 clear hi1 B0 B1 B2 c0 c2 f2
 refine (toIntS_any _ _ _ m.kd _ hk (by exact a2.onw ob2)).mono ?_
 rintro e w2 ⟨a'',rfl,hb2,hi2,hf2⟩
 have hz2:w.heap.size+1+1 < w2.heap.size:=by have:=hb2.size;simp at this;omega
 have B1:=Blk.onw hb2 B1'
 have B2:=Blk.onw hb2 B2'
 have i1:=hi1'.onw hb2
 have ob3:=ob2.trans hb2
 simp only[World.size_setCell] at hf2
 clear hb2 hi1' B0' B1' B2' ob2 ob
 have c2:=B2.cell
 have f2:=B2.free
 have c1:=B1.cell
 have f1:=B1.free
 go_wp2_with fail
 refine bodyPost_ret (v:= .agg #[.int .i64 m.kind,.int .i64 m.frm,.int .i64 m.tto,.int .i64 m.line,.int .i64 m.op,.int .i64 m.num,.float .f64 m.flt,.string m.text,.slice a' m.nn m.nn,.slice a'' m.nk m.nk]) (by simp[results,Tryz.results27,go_sem,c1]) rfl ⟨a',a'',rfl,?_,?_,?_,?_,?_⟩
 ·iterate 11 (refine bset ?_ Zo _)
  exact ob3
 ·exact J138
 ·exact J137
 ·exact hf1.mono Zo
 ·exact hf2.mono Zo
theorem info_part:(Tryz.prog.info? 67).map (fun i=>(i.zero,i.size,i.bytes))=some (some (.agg #[.int .i64 0,.int .i64 0,.int .i64 0,.int .i64 0,.int .i64 0,.int .i64 0,.float .f64 0,.string ByteArray.empty,.slice none 0 0,.slice none 0 0]),10,120):=by kernel_rfl
theorem run_make_parts (n:Nat)(hn:n<=1048576)(w:World):
  (Instr.makeSlice 28 (.int .i64 n) (.int .i64 n)).run Tryz.prog w= .ok (.slice (some ⟨w.heap.size,0,none⟩) n n) (w.alloc (.cells (madeCells #[.int .i64 0,.int .i64 0,.int .i64 0,.int .i64 0,.int .i64 0,.int .i64 0,.float .f64 0,.string ByteArray.empty,.slice none 0 0,.slice none 0 0] (n*10)) 67)):=by
 obtain ⟨i0,hi,hz0,hz1,hz2⟩:=info_parts info_part
 have:=run_make (P:=Tryz.prog) w 28 67 i0 _ Tryz.underlying28 hi hz0 .i64 .i64 n n Zo Zo (by rw[hz2];omega) Zo
 simpa[hz1,Value.cells] using this
def PM.Frm (B:Nat) (m:PM):Prop:=YtlibofjbhhdjdaaGreat.Frm B m.na/\YtlibofjbhhdjdaaGreat.Frm B m.ka/\m.nn<=m.nc/\m.nk<=m.kc
theorem PM.Frm.mono {B B':Nat}(h:m.Frm B)(hb:B'<=B):m.Frm B':=⟨h.1.mono hb,h.2.1.mono hb,h.2.2⟩
theorem PM.At.kept (hk:Kept p w w')(hr:∀x,m.na=some x->p x.block)(hk':∀x,m.ka=some x->p x.block)(h:m.At w):m.At w':=⟨h.1.kept hk hr,h.2.kept hk hk'⟩
def PartIn (cur:Array Value) (o:Nat) (m:PM):Prop:=∀j,j < 10->cur[o+j]?= m.val[j]?
theorem PartIn.cells {e:TypeId}(hb:Blk w g e cur){o:Nat}(h:PartIn cur o m):PartCells w g o m:=
 ⟨(hb.cell _).trans (h 0 Zo),(hb.cell _).trans (h 1 Zo),(hb.cell _).trans (h 2 Zo),(hb.cell _).trans (h 3 Zo),(hb.cell _).trans (h 4 Zo),(hb.cell _).trans (h 5 Zo),(hb.cell _).trans (h 6 Zo),(hb.cell _).trans (h 7 Zo),(hb.cell _).trans (h 8 Zo),(hb.cell _).trans (h 9 Zo)⟩
structure PartsRel (wr:World) (g n k:Nat) (nm nm':Nat->PM) (cur:Array Value):Prop where
 blk:Blk wr g 67 cur
 size:cur.size=n*10
 data:∀i,(nm' i).toPD=(nm i).toPD
 cells:∀i,i < k->PartIn cur (i*10) (nm' i)
 lies:∀i,i < k->(nm' i).At wr
 frm:∀i,i < k->(nm' i).Frm (g+1)
theorem PartsRel.step {wr w1:World}{g n k:Nat}{nm nm':Nat->PM}(R:PartsRel wr g n k nm nm' cur)(hkn:k < n)(hb:Onw wr w1)(a' a'':Option Addr)(i1:StrsAt w1 a' (nm k).nn (nm k).nm)(i2:IntsAt w1 a'' (nm k).nk (nm k).kd)(f1:Frm wr.heap.size a')(f2:Frm wr.heap.size a''):
  ∃nm'' cur',PartsRel (w1.setCells g (k*10) [.int .i64 (nm k).kind,.int .i64 (nm k).frm,.int .i64 (nm k).tto,.int .i64 (nm k).line,.int .i64 (nm k).op,.int .i64 (nm k).num,.float .f64 (nm k).flt,.string (nm k).text,.slice a' (nm k).nn (nm k).nn,.slice a'' (nm k).nk (nm k).nk]) g n (k+1) nm nm'' cur':=by
 obtain ⟨h1,h2,h3,h4,h5,h6⟩:=R
 have hlt:=h1.lt
 refine ⟨fun i=>if i=k then ⟨(nm k).toPD,a',(nm k).nn,a'',(nm k).nk⟩ else nm' i,_,Blk.setL _ _ _ (k*10) (h1.onw hb),?_,?_,?_,?_,?_⟩
 ·rw[size_setL];exact h2
 ·exact J193
 ·exact J104
 ·exact J82
 ·exact J125
theorem toPartS_any (a:Option Addr)(n c:Nat)(nm:Nat->PM)(w:World)(hn:n<=1048576)(hs:∀i,i < n->(nm i).nn<=1048576/\(nm i).nk<=1048576)(ha:PartsAt w a n nm):
  Calls Tryz.prog 16 #[.slice a n c] w fun e w'=>∃a' nm',e= .returned (.slice a' n n)/\Onw w w'/\PartsAt w' a' n nm'/\(∀i,(nm' i).toPD=(nm i).toPD)/\Frm w.heap.size a'/\∀i,i < n->(nm' i).Frm w.heap.size:=by
 have hmk:=run_make_parts n hn
 go_enter Tryz.func16,Tryz.ntmps16
 go_wp2
 go_loopw [4] (fun i wr=>∃k:Nat,k<=n/\i= .int .i64 k/\Onw w wr/\∃nm' cur,PartsRel wr w.heap.size n k nm nm' cur) (fun i _=>n-(intOf i).toNat)
 case atStart=>exact ⟨0,Nat.zero_le _,rfl,Onw.alloc _ _,nm,_,Blk.new _ _ _,by simp[size_madeCells],fun i=>rfl,fun i hi=>by omega,fun i hi=>by omega,fun i hi=>by omega⟩
 case round=>
  obtain ⟨k,hk,rfl,hb,nm',cur,R⟩:=hrel
  clear hmk
  by_cases hlt:k < n
  ·obtain ⟨b,off,rfl,hc⟩:=(ha.onw hb).1 Zo
   obtain ⟨c0,c1,c2,c3,c4,c5,c6,c7,c8,c9⟩:=hc k hlt
   have hsk:=hs k hlt
   have HS:Hid _:=hs
   clear hc hs
   go_wp2_with fail
   refine (toPart_any (nm k) _ hsk.1 hsk.2 ((ha.2 k hlt).onw hb)).mono ?_
   rintro e w1 ⟨a',a'',rfl,hb1,i1,i2,f1,f2⟩
   have hbl1:=R.blk.onw hb1
   have hf:=hbl1.free
   have hz:w.heap.size < w1.heap.size:=hbl1.lt
   obtain ⟨nm'',cur',R'⟩:=R.step hlt hb1 a' a'' i1 i2 f1 f2
   have hsz:=R.size
   obtain ⟨x0,g0⟩:=hbl1.some (j:=k*10) Zo
   obtain ⟨x1,g1⟩:=hbl1.some (j:=k*10+1) Zo
   obtain ⟨x2,g2⟩:=hbl1.some (j:=k*10+2) Zo
   obtain ⟨x3,g3⟩:=hbl1.some (j:=k*10+3) Zo
   obtain ⟨x4,g4⟩:=hbl1.some (j:=k*10+4) Zo
   obtain ⟨x5,g5⟩:=hbl1.some (j:=k*10+5) Zo
   obtain ⟨x6,g6⟩:=hbl1.some (j:=k*10+6) Zo
   obtain ⟨x7,g7⟩:=hbl1.some (j:=k*10+7) Zo
   obtain ⟨x8,g8⟩:=hbl1.some (j:=k*10+8) Zo
   obtain ⟨x9,g9⟩:=hbl1.some (j:=k*10+9) Zo
   clear c0 c1 c2 c3 c4 c5 c6 c7 c8 c9 hsz
   go_wp2_with fail
   go_roundw
   case rel=>exact ⟨k+1,by omega,by go_num,below_setL (Nat.le_refl _) [_,_,_,_,_,_,_,_,_,_] _ _ (k*10) (hb.trans hb1),nm'',cur',R'⟩
   case measure=>simp[intOf];omega
  ·go_wp2
   go_ret
   have:k=n:=Zo
   subst this
   exact ⟨_,nm',rfl,hb,⟨fun _=>⟨_,0,rfl,fun i hi=>by rw[Nat.zero_add];exact (R.cells i hi).cells R.blk⟩,R.lies⟩,R.data,fun x hx=>by cases hx;exact Nat.le_refl _,fun i hi=>(R.frm i hi).mono Zo⟩
theorem PartCells.kept (hk:Kept p w w'){b o m}(hb:p b)(h:PartCells w b o m):PartCells w' b o m:=
 ⟨(hk.cell hb).trans h.c0,(hk.cell hb).trans h.c1,(hk.cell hb).trans h.c2,(hk.cell hb).trans h.c3,(hk.cell hb).trans h.c4,(hk.cell hb).trans h.c5,(hk.cell hb).trans h.c6,(hk.cell hb).trans h.c7,(hk.cell hb).trans h.c8,(hk.cell hb).trans h.c9⟩
theorem PartsAt.kept (hk:Kept p w w')(hp:∀k,B<=k->p k){a n pm}(ha:Frm B a)(hf:∀i,i < n->(pm i).Frm B)(h:PartsAt w a n pm):PartsAt w' a n pm:=
 ⟨fun h0=>by
  obtain ⟨b,off,rfl,hc⟩:=h.1 h0
  exact ⟨b,off,rfl,fun i hi=>(hc i hi).kept hk (hp _ (ha _ rfl))⟩,fun i hi=>PM.At.kept hk (fun x hx=>hp _ ((hf i hi).1 x hx)) (fun x hx=>hp _ ((hf i hi).2.1 x hx)) (h.2 i hi)⟩
def PM.Small (m:PM):Prop:=m.nn<=1048576/\m.nk<=1048576
theorem toTree_any (m:TM)(w:World)(hn:m.np<=1048576)(hs:∀i,i < m.np->(m.pm i).Small)(ha:m.At w):
  Calls Tryz.prog 6 #[.agg #[.slice m.pa m.np m.pc]] w fun e w'=>∃m':TM,e= .returned (.agg #[.slice m'.pa m'.np m'.pc])/\Onw w w'/\m'.At w'/\m'.toTD=m.toTD/\m'.np=m.np/\m'.np<=m'.pc/\∀i,i < m'.np->(m'.pm i).nn<=(m'.pm i).nc/\(m'.pm i).nk<=(m'.pm i).kc:=by
 have HS:Hid _:=hs
 clear hs
 go_enter Tryz.func6,Tryz.ntmps6
 go_wp2_with fail
 refine (toPartS_any _ _ _ m.pm _ hn HS.out (by exact PartsAt.onw (((Onw.alloc _ _).trans (Onw.alloc _ _)).trans (Onw.alloc _ _)) ha)).mono ?_
 rintro e w1 ⟨fa,fm',rfl,hb1,hi1,hd,hf3,hg3⟩
 have ob:Onw w w1:=Onw.trans (((Onw.alloc _ _).trans (Onw.alloc _ _)).trans (Onw.alloc _ _)) hb1
 have B1:=Blk.onw ((Onw.alloc _ _).trans hb1) (Blk.new _ 30 _)
 have B2:=Blk.onw hb1 (Blk.new _ 30 _)
 have hz:w.heap.size+1+1 < w1.heap.size:=J299
 simp only[World.size_alloc] at B1 B2 hf3 hg3
 have HD:Hid _:=hd
 have HG:Hid _:=hg3
 clear hb1 hd hg3
 have c2:=B2.cell
 have f2:=B2.free
 have c1:=B1.cell
 have f1:=B1.free
 go_wp2_with fail
 refine bodyPost_ret (v:= .agg #[.slice fa m.np m.np]) (by simp[results,Tryz.results6,go_sem,c1]) rfl ⟨⟨m.np,fm',fa,m.np⟩,rfl,?_,?_,by simp only[TM.toTD];congr 1;funext i;exact HD.out i,rfl,Nat.le_refl _,fun i hi=>(HG.out i hi).2.2⟩
 ·exact bset (bset ob Zo _) Zo _
 ·exact J110
end Go.Proofs.YtlibofjbhhdjdaaGreat
namespace Go.Proofs.YtlibofjbhhdjdaaGreat
open Go.RowKit
theorem onw_drewN {w w1:World}(h:Onw w w1)(n:Nat):Onw w (w1.drewN n):=below_drewN h n
theorem eqIntS_same (a a':Option Addr)(n c c':Nat)(f:Nat->Int)(w:World)(hn:n<=1048576)(ha:IntsAt w a n f)(ha':IntsAt w a' n f):
  Calls Tryz.prog 52 #[.slice a n c,.slice a' n c'] w fun e w'=>e= .returned (.bool true)/\Onw w w':=by
 go_enter Tryz.func52,Tryz.ntmps52
 exact J60
theorem eqStringS_same (a a':Option Addr)(n c c':Nat)(f:Nat->ByteArray)(w:World)(hn:n<=1048576)(ha:StrsAt w a n f)(ha':StrsAt w a' n f):
  Calls Tryz.prog 51 #[.slice a n c,.slice a' n c'] w fun e w'=>e= .returned (.bool true)/\Onw w w':=by
 go_enter Tryz.func51,Tryz.ntmps51
 exact J60
theorem order_self (x:Nat):FloatKind.f64.format.order x x=none\/FloatKind.f64.format.order x x=some .eq:=by
 unfold Ieee.Format.order
 cases FloatKind.f64.format.read x with
 |nan=>exact .inl rfl
 |infinity s=>exact .inr (by simp[Ieee.Datum.order])
 |number s m i=>exact .inr (by simp[Ieee.Datum.order])
theorem read_one:∃m i,m≠0/\FloatKind.f64.format.read 4607182418800017408= .number false m i:=⟨4503599627370496,-52,by decide,by kernel_rfl⟩
theorem div_one (x:Nat)(h:FloatKind.f64.format.order x x=some .eq):∃r,floatBits .quo .f64 4607182418800017408 x=some r:=by
 obtain ⟨m,i,hm,ho⟩:=read_one
 show∃r,FloatKind.f64.format.div 4607182418800017408 x=some r
 unfold Ieee.Format.div
 rw[ho]
 unfold Ieee.Format.order at h
 cases hx:FloatKind.f64.format.read x with
 |nan=>rw[hx] at h;simp[Ieee.Datum.order] at h
 |infinity s=>exact ⟨_,rfl⟩
 |number s n j=>
  simp only[Ieee.Datum.quotient,hm,if_false]
  split <;> exact ⟨_,rfl⟩
theorem sameFloat_same (x:Nat)(w:World):
  Calls Tryz.prog 50 #[.float .f64 x,.float .f64 x] w fun e w'=>e= .returned (.bool true)/\Onw w w':=by
 rcases order_self x with h|h
 ·have h1:(FloatKind.f64.format.order x x !=some .eq)=true:=by rw[h];rfl
  exact J180
 ·have h1:(FloatKind.f64.format.order x x !=some .eq)=false:=by rw[h];rfl
  have h2:(FloatKind.f64.format.order x x==some .eq)=true:=by rw[h];rfl
  obtain ⟨r,hr⟩:=div_one x h
  have hd:=fun w=>run_float_arith (P:=Tryz.prog) w .quo 62 .f64 4607182418800017408 x r hr
  clear h hr
  by_cases hz:(FloatKind.f64.format.order x 0==some .eq)=true
  ·go_enter Tryz.func50,Tryz.ntmps50
   go_wp2
   go_ret
   exact ⟨by simp,Onw.refl _⟩
  ·have hz':(FloatKind.f64.format.order x 0==some .eq)=false:=by simpa using hz
   clear hz
   exact J180
theorem eqPart_same (d:PD)(ra ra' ka ka':Option Addr)(rc rc' kc kc':Nat)(w:World)(hr:d.nn<=1048576)(hk:d.nk<=1048576)(a1:StrsAt w ra d.nn d.nm)(a2:StrsAt w ra' d.nn d.nm)(a3:IntsAt w ka d.nk d.kd)(a4:IntsAt w ka' d.nk d.kd):
  Calls Tryz.prog 31 #[.agg #[.int .i64 d.kind,.int .i64 d.frm,.int .i64 d.tto,.int .i64 d.line,.int .i64 d.op,.int .i64 d.num,.float .f64 d.flt,.string d.text,.slice ra d.nn rc,.slice ka d.nk kc],.agg #[.int .i64 d.kind,.int .i64 d.frm,.int .i64 d.tto,.int .i64 d.line,.int .i64 d.op,.int .i64 d.num,.float .f64 d.flt,.string d.text,.slice ra' d.nn rc',.slice ka' d.nk kc']] w fun e w'=>e= .returned (.bool true)/\Onw w w':=by
 go_enter Tryz.func31,Tryz.ntmps31
 go_wp2_with fail
 refine (sameFloat_same _ _).mono ?_
 rintro e w1 ⟨rfl,hb1⟩
 have B0:=Blk.onw ((Onw.alloc _ _).trans hb1) (Blk.new w 67 _)
 have B1:=Blk.onw hb1 (Blk.new _ 67 _)
 have ob:Onw w w1:=((Onw.alloc _ _).trans (Onw.alloc _ _)).trans hb1
 simp only[World.size_alloc] at B1
 clear hb1
 have c0:=B0.cell
 have c1:=B1.cell
 go_wp2_with fail
 refine (eqStringS_same _ _ _ _ _ d.nm _ hr (by exact a1.onw ob) (by exact a2.onw ob)).mono ?_
 rintro e w2 ⟨rfl,hb2⟩
 have ob2:=ob.trans hb2
 have D0:=B0.onw hb2
 have D1:=B1.onw hb2
 clear c0 c1 B0 B1 ob hb2
 have c0:=D0.cell
 have c1:=D1.cell
 go_wp2_with fail
 refine (eqIntS_same _ _ _ _ _ d.kd _ hk (by exact a3.onw ob2) (by exact a4.onw ob2)).mono ?_
 rintro e w3 ⟨rfl,hb3⟩
 clear c0 c1
 go_wp2_with fail
 go_ret
 exact ⟨rfl,ob2.trans hb3⟩
theorem eqPartS_same (a a':Option Addr)(n c c':Nat)(nm nm':Nat->PM)(w:World)(hn:n<=1048576)(hs:∀i,i < n->(nm i).nn<=1048576/\(nm i).nk<=1048576)(hd:∀i,(nm' i).toPD=(nm i).toPD)(ha:PartsAt w a n nm)(ha':PartsAt w a' n nm'):
  Calls Tryz.prog 20 #[.slice a n c,.slice a' n c'] w fun e w'=>e= .returned (.bool true)/\Onw w w':=by
 have HD:Hid _:=hd
 clear hd
 go_enter Tryz.func20,Tryz.ntmps20
 go_wp2
 go_loopw [5] (fun i wr=>∃k:Nat,k<=n/\i= .int .i64 k/\Onw w wr) (fun i _=>n-(intOf i).toNat)
 case atStart=>exact ⟨0,Nat.zero_le _,rfl,Onw.refl _⟩
 case round=>
  obtain ⟨k,hk,rfl,hb⟩:=hrel
  by_cases hlt:k < n
  ·obtain ⟨b,off,rfl,hc⟩:=(ha.onw hb).1 Zo
   obtain ⟨b',off',rfl,hc'⟩:=(ha'.onw hb).1 Zo
   obtain ⟨h0,h1,h2,h3,h4,h5,h6,h7,h8,h9⟩:=hc k hlt
   obtain ⟨g0,g1,g2,g3,g4,g5,g6,g7,g8,g9⟩:=hc' k hlt
   obtain ⟨s1,s2⟩:=hs k hlt
   have l1:=(ha.2 k hlt).onw hb
   have l2:=(ha'.2 k hlt).onw hb
   have e:=HD.out k
   clear hc hc' hs
   generalize nm k=M at*
   generalize nm' k=M' at*
   obtain ⟨d,ra,rc,ka,kc⟩:=M
   obtain ⟨d',ra',rc',ka',kc'⟩:=M'
   simp only at e
   subst e
   have hi:(k:Int) < (n:Int):=Zo
   have hi0:(0:Int)<=(k:Int):=Zo
   go_wp2
   go_region_with (go_at_call 31;refine (eqPart_same d' ra ra' ka ka' rc rc' kc kc' _ s1 s2 (by exact l1.1.onw (Below.drew (Onw.refl _))) (by exact l2.1.onw (Below.drew (Onw.refl _))) (by exact l1.2.onw (Below.drew (Onw.refl _))) (by exact l2.2.onw (Below.drew (Onw.refl _)))).mono ?_;rintro e w1 ⟨rfl,hb1⟩)
   all_goals
    go_wp2
    go_roundw
    case rel=>exact ⟨k+1,by omega,by go_num,Onw.trans (Below.drew hb) hb1⟩
    case measure=>simp[intOf];omega
  ·go_wp2
   go_ret
   exact ⟨rfl,hb⟩
theorem eqTree_same (m m':TM)(w:World)(hn:m.np<=1048576)(hs:∀i,i < m.np->(m.pm i).Small)(he:m'.toTD=m.toTD)(ha:m.At w)(ha':m'.At w):
  Calls Tryz.prog 9 #[.agg #[.slice m.pa m.np m.pc],.agg #[.slice m'.pa m'.np m'.pc]] w fun e w'=>e= .returned (.bool true)/\Onw w w':=by
 obtain ⟨nf,fm,fa,fc⟩:=m
 obtain ⟨nf',fm',fa',fc'⟩:=m'
 simp only[TM.toTD,TD.mk.injEq] at he
 obtain ⟨rfl,hd⟩:=he
 have HD:Hid _:=fun i=>congrFun hd i
 have HS:Hid _:=hs
 clear hd hs
 go_enter Tryz.func9,Tryz.ntmps9
 go_wp2_with fail
 refine (eqPartS_same _ _ _ _ _ fm fm' _ hn HS.out HD.out (by exact PartsAt.onw ((Onw.alloc _ _).trans (Onw.alloc _ _)) ha) (by exact PartsAt.onw ((Onw.alloc _ _).trans (Onw.alloc _ _)) ha')).mono ?_
 rintro e w1 ⟨rfl,hb1⟩
 go_wp2_with fail
 go_ret
 exact ⟨rfl,((Onw.alloc _ _).trans (Onw.alloc _ _)).trans hb1⟩
end Go.Proofs.YtlibofjbhhdjdaaGreat
namespace Go.Proofs.YtlibofjbhhdjdaaGreat
open Go.RowKit
attribute [local go_sem] rsf
theorem ret_int {k:IntKind}{a b:Int}(h:a=b):Ending.returned (.int k a)= .returned (.int k b):=by rw[h]
theorem rtb {a b:Bool}(h:a=b):Ending.returned (.bool a)= .returned (.bool b):=by rw[h]
def allB (p:Nat->Bool) (i:Nat):Nat->Bool
 |0=>true
 |m+1=>p i&&allB p (i+1) m
def anyB (p:Nat->Bool) (i:Nat):Nat->Bool
 |0=>false
 |m+1=>p i||anyB p (i+1) m
def wordAt (i:Nat):ByteArray:=
 if i=0 then {data:= #[97,110,100]} else
 if i=1 then {data:= #[98,114,101,97,107]} else
 if i=2 then {data:= #[99,97,116,99,104]} else
 if i=3 then {data:= #[99,111,110,115,116]} else
 if i=4 then {data:= #[100,101,102,101,114]} else
 if i=5 then {data:= #[101,108,105,102]} else
 if i=6 then {data:= #[101,108,115,101]} else
 if i=7 then {data:= #[102,97,108,115,101]} else
 if i=8 then {data:= #[102,110]} else
 if i=9 then {data:= #[102,111,114]} else
 if i=10 then {data:= #[105,102]} else
 if i=11 then {data:= #[105,110]} else
 if i=12 then {data:= #[108,101,116]} else
 if i=13 then {data:= #[110,101,120,116]} else
 if i=14 then {data:= #[110,105,108]} else
 if i=15 then {data:= #[110,111,116]} else
 if i=16 then {data:= #[111,114]} else
 if i=17 then {data:= #[114,101,116,117,114,110]} else
 if i=18 then {data:= #[116,104,114,111,119]} else
 if i=19 then {data:= #[116,114,117,101]} else
 if i=20 then {data:= #[116,114,121]} else
 if i=21 then {data:= #[119,104,105,108,101]} else
 ByteArray.empty
def wordB (s:ByteArray):Bool:=anyB (fun i=>(wordAt i).toList==s.toList) 0 22
theorem l6words_any (w:World):Calls Tryz.prog 81 #[] w fun e w'=>∃b,e= .returned (.slice (some ⟨b,0,none⟩) 22 22)/\Onw w w'/\∀i,i < 22->w'.cell? ⟨b,i,none⟩=some (.string (wordAt i)):=by
 go_enter Tryz.func81,Tryz.ntmps81
 go_wp2
 go_ret
 refine ⟨w.heap.size,rfl,Onw.alloc _ _,fun i hi=>?_⟩
 rw[(Blk.new w 9 _).cell]
 have cs:i=0\/i=1\/i=2\/i=3\/i=4\/i=5\/i=6\/i=7\/i=8\/i=9\/i=10\/i=11\/i=12\/i=13\/i=14\/i=15\/i=16\/i=17\/i=18\/i=19\/i=20\/i=21:=Zo
 rcases cs with rfl|rfl|rfl|rfl|rfl|rfl|rfl|rfl|rfl|rfl|rfl|rfl|rfl|rfl|rfl|rfl|rfl|rfl|rfl|rfl|rfl|rfl <;> rfl
def byteI (s:ByteArray) (k:Nat):Int:=if h:k < s.size then ((s[k]'h).toNat:Int) else 0
def letterB (x:Int):Bool:=decide (97<=x)&&decide (x<=122)||decide (65<=x)&&decide (x<=90)||x==95
def digitB (x:Int):Bool:=decide (48<=x)&&decide (x<=57)
def nameB (s:ByteArray):Bool:=decide (1<=s.size)&&decide (s.size<=40)&&allB (fun i=>letterB (byteI s i)||(!((i:Int)==0)&&digitB (byteI s i))) 0 s.size&&!wordB s
theorem l6nameok_any (s:ByteArray)(w:World)(hs:s.size<=1048576):Calls Tryz.prog 58 #[.string s] w fun e w'=>e= .returned (.bool (nameB s))/\Onw w w':=by
 by_cases h0:s.size=0
 ·have e0:((s.size:Int)==0)=true:=by simp[h0]
  have fin:Hid (nameB s=false):=by show _=_;simp[nameB,h0]
  clear h0
  go_enter Tryz.func58,Tryz.ntmps58
  exact J106
 ·have e0:((s.size:Int)==0)=false:=Zd
  by_cases h40:s.size<=40
  ·have e1:decide ((40:Int) < (s.size:Int))=false:=decide_eq_false Zo
   have fin:Hid (nameB s=(allB (fun i=>letterB (byteI s i)||(!((i:Int)==0)&&digitB (byteI s i))) 0 s.size&&!wordB s)):=by
    show _=_;unfold nameB
    rw[decide_eq_true (show 1<=s.size by omega),decide_eq_true h40];simp
   clear h0
   go_enter Tryz.func58,Tryz.ntmps58
   go_wp2_with fail
   go_loopw [3] (fun i wr=>∃k:Nat,k<=s.size/\i= .int .i64 k/\wr=w/\allB (fun i=>letterB (byteI s i)||(!((i:Int)==0)&&digitB (byteI s i))) 0 s.size=allB (fun i=>letterB (byteI s i)||(!((i:Int)==0)&&digitB (byteI s i))) k (s.size-k)) (fun i _=>s.size-(intOf i).toNat)
   case atStart=>exact ⟨0,Nat.zero_le _,rfl,rfl,rfl⟩
   case round=>
    obtain ⟨k,hk,rfl,rfl,hq⟩:=hrel
    have HQ:Hid _:=hq
    clear hq
    by_cases hlt:k < s.size
    ·have st:Hid (allB (fun i=>letterB (byteI s i)||(!((i:Int)==0)&&digitB (byteI s i))) k (s.size-k)=((letterB (byteI s k)||(!((k:Int)==0)&&digitB (byteI s k)))&&allB (fun i=>letterB (byteI s i)||(!((i:Int)==0)&&digitB (byteI s i))) (k+1) (s.size-(k+1)))):=by
      exact J173
     have eb:∀h:k < s.size,((s[k]'h).toNat:Int)=byteI s k:=fun h=>by unfold byteI;rw[dif_pos h]
     have hx0:0<=byteI s k:=by unfold byteI;split <;> omega
     generalize byteI s k=x at*
     have rg:(x < 48)\/(48<=x/\x<=57)\/(58<=x/\x<=64)\/(65<=x/\x<=90)\/(91<=x/\x<=94)\/(x=95)\/(x=96)\/(97<=x/\x<=122)\/(123<=x):=Zo
     have kz:((k:Int)==0)=true\/((k:Int)==0)=false:=by cases ((k:Int)==0) <;> simp
     rcases rg with rg|rg|rg|rg|rg|rg|rg|rg|rg
     ·have f0:decide ((97:Int)<=x)=false:=decide_eq_false Zo
      have f1:decide (x<=122)=true:=decide_eq_true Zo
      have f2:decide ((65:Int)<=x)=false:=decide_eq_false Zo
      have f3:decide (x<=90)=true:=decide_eq_true Zo
      have f4:decide (x < 48)=true:=decide_eq_true Zo
      have f5:decide ((57:Int) < x)=false:=decide_eq_false Zo
      exact J33
     ·have f0:decide ((97:Int)<=x)=false:=decide_eq_false Zo
      have f1:decide (x<=122)=true:=decide_eq_true Zo
      have f2:decide ((65:Int)<=x)=false:=decide_eq_false Zo
      have f3:decide (x<=90)=true:=decide_eq_true Zo
      have f4:decide (x < 48)=false:=decide_eq_false Zo
      have f5:decide ((57:Int) < x)=false:=decide_eq_false Zo
      have f6:(x==95)=false:=Zd
      have el:Hid (letterB x=false):=by show _=_;simp only[letterB,f0,f1,f2,f3,f6];rfl
      have ed:Hid (digitB x=true):=by show _=_;unfold digitB;simp;omega
      clear rg
      rcases kz with kz|kz
      ·exact J233
      ·go_wp2_with fail
       go_roundw
       case rel=>exact ⟨k+1,by omega,by go_num,by first|rfl|trivial,by rw[HQ.out,st.out,el.out,ed.out,kz];rfl⟩
       case measure=>simp[intOf];omega
     ·have f0:decide ((97:Int)<=x)=false:=decide_eq_false Zo
      have f1:decide (x<=122)=true:=decide_eq_true Zo
      have f2:decide ((65:Int)<=x)=false:=decide_eq_false Zo
      have f3:decide (x<=90)=true:=decide_eq_true Zo
      exact J232
     ·have f0:decide ((97:Int)<=x)=false:=decide_eq_false Zo
      have f1:decide (x<=122)=true:=decide_eq_true Zo
      have f2:decide ((65:Int)<=x)=true:=decide_eq_true Zo
      have f3:decide (x<=90)=true:=decide_eq_true Zo
      exact J109
     ·exact J132
     ·have f0:decide ((97:Int)<=x)=false:=decide_eq_false Zo
      have f1:decide (x<=122)=true:=decide_eq_true Zo
      have f2:decide ((65:Int)<=x)=true:=decide_eq_true Zo
      have f3:decide (x<=90)=false:=decide_eq_false Zo
      have f4:decide (x < 48)=false:=decide_eq_false Zo
      have f5:decide ((57:Int) < x)=true:=decide_eq_true Zo
      have f6:(x==95)=true:=J275
      exact J52
     ·exact J132
     ·have f0:decide ((97:Int)<=x)=true:=decide_eq_true Zo
      have f1:decide (x<=122)=true:=decide_eq_true Zo
      have f2:decide ((65:Int)<=x)=true:=decide_eq_true Zo
      have f3:decide (x<=90)=false:=decide_eq_false Zo
      exact J109
     ·have f0:decide ((97:Int)<=x)=true:=decide_eq_true Zo
      have f1:decide (x<=122)=false:=decide_eq_false Zo
      exact J66
    ·have st:Hid (allB (fun i=>letterB (byteI s i)||(!((i:Int)==0)&&digitB (byteI s i))) k (s.size-k)=true):=by
      exact J184
     have fin2:Hid (nameB s=!wordB s):=by show _=_;rw[fin.out,HQ.out,st.out];rfl
     go_wp2_with fail
     refine (l6words_any _).mono ?_
     rintro e w1 ⟨b,rfl,O1,hc⟩
     have HC:Hid _:=hc
     clear hc
     go_wp2_with fail
     go_loopw [59] (fun i wr=>∃j:Nat,j<=22/\i= .int .i64 j/\wr=w1/\wordB s=anyB (fun i=>(wordAt i).toList==s.toList) j (22-j)) (fun i _=>22-(intOf i).toNat)
     case atStart=>exact ⟨0,Nat.zero_le _,rfl,rfl,rfl⟩
     case round=>
      obtain ⟨j,hj,rfl,hwr,hq⟩:=hrel
      subst hwr
      have HQ2:Hid _:=hq
      clear hq
      by_cases hjt:j < 22
      ·have c0:=HC.out j hjt
       have st2:Hid (anyB (fun i=>(wordAt i).toList==s.toList) j (22-j)=(((wordAt j).toList==s.toList)||anyB (fun i=>(wordAt i).toList==s.toList) (j+1) (22-(j+1)))):=by
        show _=_
        rw[show 22-j=(22-(j+1))+1 from by omega];rfl
       generalize wordAt j=W at*
       cases hx:(W.toList==s.toList)
       ·go_wp2_with fail
        go_roundw
        case rel=>exact ⟨j+1,by omega,by go_num,by first|rfl|trivial,by rw[HQ2.out,st2.out,hx];rfl⟩
        case measure=>simp[intOf];omega
       ·go_wp2_with fail
        go_ret
        exact ⟨rtb (by rw[fin2.out,HQ2.out,st2.out,hx];rfl),O1⟩
      ·have st2:Hid (anyB (fun i=>(wordAt i).toList==s.toList) j (22-j)=false):=by
        show _=_
        rw[show 22-j=0 from by omega];rfl
       go_wp2_with fail
       go_ret
       exact ⟨rtb (by rw[fin2.out,HQ2.out,st2.out];rfl),O1⟩
  ·have e1:decide ((40:Int) < (s.size:Int))=true:=decide_eq_true Zo
   have fin:Hid (nameB s=false):=by show _=_;simp[nameB,h40]
   clear h0 h40
   go_enter Tryz.func58,Tryz.ntmps58
   exact J106
end Go.Proofs.YtlibofjbhhdjdaaGreat
