import Derived.Test.YtlibofjbhhdjdaaGreatQ
import Derived.Test.YtlibofjbhhdjdaaGreatP48
import Derived.Test.YtlibofjbhhdjdaaGreatP00
import Derived.Test.YtlibofjbhhdjdaaGreatP31
import Derived.Test.YtlibofjbhhdjdaaGreatP35
import Derived.Test.YtlibofjbhhdjdaaGreatP28
import Derived.Test.YtlibofjbhhdjdaaGreatP37
import Derived.Test.YtlibofjbhhdjdaaGreatP36
import Derived.Test.YtlibofjbhhdjdaaGreatP43
set_option linter.unusedSimpArgs false
set_option maxRecDepth 100000
set_option maxHeartbeats 16000000
namespace Go.Proofs.YtlibofjbhhdjdaaGreat
open Go.RowKit
attribute [local go_sem] rsf
def textB (pd:Nat->PD) (np:Nat):Bool:=decide (0 < np)&&(decide (np<=3000)&&((pd (np-1)).kind==1))
theorem textFits_any (np:Nat)(pm:Nat->PM)(pa:Option Addr)(pc:Nat)(w:World)(hn:np<=1048576)(ha:PartsAt w pa np pm):
  Calls Tryz.prog 45 #[.slice pa np pc] w fun e w'=>e= .returned (.bool (textB (pdOf pm) np))/\Onw w w':=by
 by_cases h0:0 < np
 ·obtain ⟨l,rfl⟩:∃l,np=l+1:=⟨np-1,by omega⟩
  have d0:decide ((1:Int)<=(l:Int)+1)=true:=decide_eq_true Zo
  by_cases h1:l+1<=3000
  ·have d1:decide ((l:Int)+1<=3000)=true:=decide_eq_true Zo
   obtain ⟨b,off,rfl,hc⟩:=ha.1 h0
   have p0:=(hc l Zo).c0
   clear hc ha
   have fin:Hid (textB (pdOf pm) (l+1)=((pm l).kind==1)):=by
    show _=_
    unfold textB;rw[decide_eq_true h0,decide_eq_true h1];rfl
   have i0:(0:Int)<=(l:Int):=Zo
   have i1:(l:Int) < (l:Int)+1:=Zo
   clear h0 h1
   exact J187
  ·have d1:decide ((l:Int)+1<=3000)=false:=decide_eq_false Zo
   have fin:Hid (textB (pdOf pm) (l+1)=false):=by
    show _=_
    unfold textB;rw[decide_eq_false h1];simp
   clear h0 h1
   exact J187
 ·obtain rfl:np=0:=Zo
  have fin:Hid (textB (pdOf pm) 0=false):=rfl
  exact J187
theorem specTree_any (t:TM)(w:World)(hn:t.np<=1048576)(hs:∀i,i < t.np->(t.pm i).Slight)(ht:t.At w):
  Calls Tryz.prog 14 #[.agg #[.slice t.pa t.np t.pc]] w fun e w'=>e= .returned (.agg #[.int .i64 (specT (pdOf t.pm) t.np).1,.int .i64 (specT (pdOf t.pm) t.np).2])/\Onw w w':=by
 obtain ⟨np,pm,pa,pc⟩:=t
 simp only at*
 cases hb:(decide (0 < np)&&(decide (np<=3000)&&(((pdOf pm) (np-1)).kind==1)))
 ·refine (specTree_bad ⟨np,pm,pa,pc⟩ w hn ht hb).mono ?_
  rintro e w' ⟨rfl,o⟩
  have:specT (pdOf pm) np=(1,0):=by unfold specT;rw[hb];rfl
  exact ⟨by rw[this],o⟩
 ·simp only[Bool.and_eq_true,decide_eq_true_eq,beq_iff_eq] at hb
  obtain ⟨l,rfl⟩:∃l,np=l+1:=⟨np-1,by omega⟩
  exact specTree_good l pm pa pc w hb.2.1 hb.2.2 hs ht
theorem implTree_any (t:TM)(w:World)(hn:t.np<=1048576)(hs:∀i,i < t.np->(t.pm i).Slight)(ht:t.At w):
  Calls Tryz.prog 29 #[.agg #[.slice t.pa t.np t.pc]] w fun e w'=>e= .returned (.agg #[.int .i64 (specT (pdOf t.pm) t.np).1,.int .i64 (specT (pdOf t.pm) t.np).2])/\Onw w w':=by
 obtain ⟨np,pm,pa,pc⟩:=t
 simp only at*
 have HS:Hid _:=hs
 have HT:Hid _:=ht
 clear hs ht
 have T0:=(Blk.new w 30 #[.slice pa np pc]).onw (Onw.alloc (w.alloc (Obj.cells #[.slice pa np pc] 30)) (Obj.cells #[.int .i64 0,.int .i64 0] 39))
 have R0:=Blk.new (w.alloc (Obj.cells #[.slice pa np pc] 30)) 39 #[.int .i64 0,.int .i64 0]
 have O:=(Onw.alloc w (Obj.cells #[.slice pa np pc] 30)).trans (Onw.alloc _ (Obj.cells #[.int .i64 0,.int .i64 0] 39))
 simp only[World.size_alloc] at R0
 go_enter Tryz.func29,Tryz.ntmps29
 go_wp2_with fail
 refine (textFits_any np pm pa pc _ hn (PartsAt.onw O HT.out)).mono ?_
 rintro e w1 ⟨rfl,b1⟩
 replace T0:=T0.onw b1
 replace R0:=R0.onw b1
 replace O:=O.trans b1
 clear b1
 have x0:=Blk.at_ T0 0 rfl
 cases hb:textB (pdOf pm) np
 ·have fin:Hid (specT (pdOf pm) np=(1,0)):=by show _=_;unfold specT;rw[show (decide (0 < np)&&(decide (np<=3000)&&((pdOf pm (np-1)).kind==1)))=false from hb];rfl
  have f2:=R0.free
  have y0:=Blk.at_ R0 0 rfl
  have y1:=Blk.at_ R0 1 rfl
  go_wp2_with fail
  exact bodyPost_ret (v:= .agg #[.int .i64 1,.int .i64 0]) J280 rfl ⟨ret_wrong fin.out,by first|exact O|exact bset (bset O Zo _) Zo _|exact bset O Zo _⟩
 ·have hb':=hb
  simp only[textB,Bool.and_eq_true,decide_eq_true_eq,beq_iff_eq] at hb'
  obtain ⟨l,rfl⟩:∃l,np=l+1:=⟨np-1,by omega⟩
  have fin:Hid (specT (pdOf pm) (l+1)=after 2 (firstBad (fun i=>nodeP (pdOf pm) (pdOf pm i) i) 0 (l+1)) (after 3 (firstBad (fun i=>!(sizesN (pdOf pm) (l+1) i==0)) 0 (l+1))
   (bif sizesN (pdOf pm) (l+1) (l+1-1)==((l+1:Nat):Int) then after 4 (firstBad (fun i=>decide (depD (pdOf pm) (l+1) (l+1) i<=100)) 0 (l+1)) (0,0) else (3,((l+1:Nat):Int)-1)))):=by
   show _=_
   unfold specT
   rw[show (decide (0 < l+1)&&(decide (l+1<=3000)&&((pdOf pm (l+1-1)).kind==1)))=true from hb];rfl
  clear hb hb'
  go_wp2_with fail
  refine (piecesOf_any (l+1) pm pa pc _ hn (PartsAt.onw O HT.out)).mono ?_
  rintro e w2 ⟨ab,pk,rfl,b2,hP⟩
  have HP:Hid _:=hP
  replace O:=O.trans b2
  replace R0:=R0.onw b2
  clear b2 T0 x0 hP
  go_wp2_with fail
  refine (firstOffRow_any (l+1) _ ab pm pk pa _ hn HS.out (PartsAt.onw O HT.out) HP.out).mono ?_
  rintro e w3 ⟨rfl,b3⟩
  have HP3:Hid _:=PiecesAt.onw b3 HP.out
  replace O:=O.trans b3
  replace R0:=R0.onw b3
  rw[rows_eq]
  clear HP b3
  cases h1:firstBad (fun i=>nodeP (pdOf pm) (pdOf pm i) i) 0 (l+1) with
  |some n=>
   have F1:Hid _:=h1
   clear h1
   have v1:optI (some n)=(n:Int):=rfl
   have v2:((n:Int) != -1)=true:=J317
   rw[v1]
   have f2:=R0.free
   have y0:=Blk.at_ R0 0 rfl
   have y1:=Blk.at_ R0 1 rfl
   go_wp2_with fail
   exact bodyPost_ret (v:= .agg #[.int .i64 2,.int .i64 n]) J280 rfl ⟨ret_wrong (by rw[fin.out,F1.out];rfl),by first|exact O|exact bset (bset O Zo _) Zo _|exact bset O Zo _⟩
  |none=>
   have F1:Hid _:=h1
   have hok:=firstBad_none _ _ h1
   have hsl:∀i,i < l+1->slimP (pm i).toPD:=fun i hi=>slim_of (hok i (Nat.zero_le _) Zo)
   have hks:∀i,i < l+1->∀j,j < (pm i).nk->0<=(pm i).kd j/\(pm i).kd j < i:=fun i hi=>nodeP_kids (hok i (Nat.zero_le _) Zo)
   have HSL:Hid _:=hsl
   have HKS:Hid _:=hks
   have fin2:Hid (specT (pdOf pm) (l+1)=after 3 (orderI (pdOf pm) (l+1)) (after 4 (firstBad (fun i=>decide (depD (pdOf pm) (l+1) (l+1) i<=100)) 0 (l+1)) (0,0))):=by
    show _=_
    rw[fin.out,F1.out]
    exact order_eq hks _
   clear h1 hok hsl hks fin F1
   have v1:optI none= -1:=rfl
   rw[v1]
   go_wp2_with fail
   refine (firstOutOfOrder_any l _ ab pm pk _ hn HSL.out HKS.out HP3.out).mono ?_
   rintro e w4 ⟨rfl,b4⟩
   have HP4:Hid _:=PiecesAt.onw b4 HP3.out
   replace O:=O.trans b4
   replace R0:=R0.onw b4
   clear HP3 b4 v1
   cases h1:orderI (pdOf pm) (l+1) with
   |some n=>
    have F1:Hid _:=h1
    clear h1
    have v1:optI (some n)=(n:Int):=rfl
    have v2:((n:Int) != -1)=true:=J317
    rw[v1]
    have f2:=R0.free
    have y0:=Blk.at_ R0 0 rfl
    have y1:=Blk.at_ R0 1 rfl
    go_wp2_with fail
    exact bodyPost_ret (v:= .agg #[.int .i64 3,.int .i64 n]) J280 rfl ⟨ret_wrong (by rw[fin2.out,F1.out];rfl),by first|exact O|exact bset (bset O Zo _) Zo _|exact bset O Zo _⟩
   |none=>
    have F1:Hid _:=h1
    clear h1
    have v1:optI none= -1:=rfl
    rw[v1]
    go_wp2_with fail
    refine (firstTooDeep_any l _ ab pm pk _ hn HSL.out HKS.out HP4.out).mono ?_
    rintro e w5 ⟨rfl,b5⟩
    replace O:=O.trans b5
    replace R0:=R0.onw b5
    clear b5 v1
    cases h1:firstBad (fun i=>decide (depD (pdOf pm) (l+1) (l+1) i<=100)) 0 (l+1) with
    |some n=>
     have F2:Hid _:=h1
     clear h1
     have v1:optI (some n)=(n:Int):=rfl
     have v2:((n:Int) != -1)=true:=J317
     rw[v1]
     have f2:=R0.free
     have y0:=Blk.at_ R0 0 rfl
     have y1:=Blk.at_ R0 1 rfl
     go_wp2_with fail
     exact bodyPost_ret (v:= .agg #[.int .i64 4,.int .i64 n]) J280 rfl ⟨ret_wrong (by rw[fin2.out,F1.out,F2.out];rfl),by first|exact O|exact bset (bset O Zo _) Zo _|exact bset O Zo _⟩
    |none=>
     have F2:Hid _:=h1
     clear h1
     have v1:optI none= -1:=rfl
     rw[v1]
     have f2:=R0.free
     have y0:=Blk.at_ R0 0 rfl
     have y1:=Blk.at_ R0 1 rfl
     go_wp2_with fail
     exact bodyPost_ret (v:= .agg #[.int .i64 0,.int .i64 0]) J280 rfl ⟨ret_wrong (by rw[fin2.out,F1.out,F2.out];rfl),by first|exact O|exact bset (bset O Zo _) Zo _|exact bset O Zo _⟩
end Go.Proofs.YtlibofjbhhdjdaaGreat
namespace Go.Proofs.YtlibofjbhhdjdaaGreat
open Go.RowKit
variable {m m' t:TM}
theorem sum_ge (f:Nat->Nat):∀(n i:Nat),i < n->f i<=sumTo f n
 |0,_,h=>by omega
 |n+1,i,h=>by
  simp only[sumTo]
  by_cases e:i=n
  ·subst e;omega
  ·have:=sum_ge f n i Zo;omega
theorem slight_of {m:PM}(h:m.sz<=1048576):m.Slight:=by
 unfold PM.sz at h
 refine ⟨by omega,by omega,by omega,fun i hi=>?_⟩
 have:(m.nm i).size<=sumTo (fun i=>(m.nm i).size) m.nn:=sum_ge (fun i=>(m.nm i).size) m.nn i hi
 omega
theorem sz_slight (h:t.sz<=1048576):t.np<=1048576/\∀i,i < t.np->(t.pm i).Slight:=by
 unfold TM.sz at h
 refine ⟨by omega,fun i hi=>slight_of ?_⟩
 have:(t.pm i).sz<=sumTo (fun i=>(t.pm i).sz) t.np:=sum_ge (fun i=>(t.pm i).sz) t.np i hi
 omega
theorem td_pm (h:m'.toTD=m.toTD):m'.np=m.np/\∀i,(m'.pm i).toPD=(m.pm i).toPD:=by
 have h1:=congrArg TD.np h
 have h2:=congrArg TD.pt h
 exact ⟨h1,fun i=>congrFun h2 i⟩
theorem td_pd (h:m'.toTD=m.toTD):pdOf m'.pm=pdOf m.pm:=funext (td_pm h).2
theorem slight_td (h:m'.toTD=m.toTD)(hs:∀i,i < m.np->(m.pm i).Slight):∀i,i < m'.np->(m'.pm i).Slight:=by
 obtain ⟨h1,h2⟩:=td_pm h
 intro i hi
 have:=hs i Zo
 unfold PM.Slight at this ⊢
 rw[h2 i];exact this
theorem small_of_slight (hs:∀i,i < t.np->(t.pm i).Slight):∀i,i < t.np->(t.pm i).Small:=fun i hi=>⟨(hs i hi).2.1,(hs i hi).1⟩
end Go.Proofs.YtlibofjbhhdjdaaGreat
namespace Go.Proofs.YtlibofjbhhdjdaaGreat
open Go.RowKit Go.Deep Go.ChangeShapes Go.WideShapes
def pd0:PD:=⟨0,0,0,0,0,0,0,ByteArray.empty,0,fun _=>ByteArray.empty,0,fun _=>0⟩
def pm0:PM:=⟨pd0,none,0,none,0⟩
section
variable {H : Type} {enc : TypeId × Value -> H} {w : World} {spare : Nat -> Bool} {held : Bool}
def Fit (t:TypeId) (d:DataW H):Prop:=∀n,n∈d.weights Tryz.prog t->n<=140737488351232
theorem fit_all_mem {e:TypeId}:∀{l:List (DataW H)},(∀n,n∈DataW.weightsAll Tryz.prog e l->n<=140737488351232)->∀d,d∈l->Fit e d
 | [],_,d,hd=>by cases hd
 |x::l,h,d,hd=>by
  simp only[DataW.weightsAll,List.mem_append] at h
  rcases List.mem_cons.1 hd with rfl|hd
  ·exact fun n hn=>h n (Or.inl hn)
  ·exact fit_all_mem (fun n hn=>h n (Or.inr hn)) d hd
theorem fit_slice {t e:TypeId}(hu:Tryz.prog.underlying t=some (.slice e)){elems rest:List (DataW H)}(h:Fit t (.slice elems rest)):(elems.length+rest.length)*Tryz.prog.bytesOf e<=140737488351232/\∀d,d∈elems->Fit e d:=by
 unfold Fit at h
 simp only[DataW.weights,hu,List.mem_cons,List.mem_append] at h
 exact ⟨h _ (Or.inl rfl),fit_all_mem fun n hn=>h n (Or.inr (Or.inl hn))⟩
theorem fit_agg {t:TypeId}{fs:Array Field}(hu:Tryz.prog.underlying t=some (.struct fs)){parts:List (DataW H)}(h:Fit t (.agg parts)){i:Nat}{f:Field}(hi:fs[i]?= some f){d:DataW H}(hd:parts[i]?= some d):Fit f.type d:=by
 unfold Fit at h
 simp only[DataW.weights,hu] at h
 exact fun n hn=>h n (DataW.weights_mem_each (j:=i) (t:=f.type) (d:=d) (by simp[hi]) hd n hn)
theorem fields {t:TypeId}{fs:Array Field}{fuel:Nat}{cs:List Value}{x:DataW H×List MemPlace}(hs:Tryz.prog.underlying t=some (.struct fs))(hone:oneCellFields Tryz.prog fs=true)(hC:Tryz.prog.cellsOf t=fs.size)(h:DataW.trod enc Tryz.prog w 0 spare held fuel t cs=some x)(hf:Fit t x.1):
  cs.length=fs.size/\∃n,∀(i:Nat) (f:Field),fs[i]?= some f->∃v y,cs[i]?= some v/\DataW.trod enc Tryz.prog w 0 spare held n f.type [v]=some y/\Fit f.type y.1:=by
 obtain ⟨xs,n,_,rfl,hl,hxl,hg⟩:=DataW.trod_struct hs h
 rw[hC] at hl
 refine ⟨hl,n,fun i f hi=>?_⟩
 have hlt:i < fs.size:=(Array.getElem?_eq_some_iff.1 hi).1
 obtain ⟨ho,hc1⟩:=hone_of hone i f hi
 have g:=hg i f hi
 rw[ho,hc1,take1_drop cs i undef Zo] at g
 have e1:cs[i]?= some (cs.getD i undef):=by simp[List.getD,List.getElem?_eq_getElem (show i < cs.length by omega)]
 have e2:xs[i]?= some (xs.getD i (.nil, [])):=by simp[List.getD,List.getElem?_eq_getElem (show i < xs.length by omega)]
 refine ⟨_,xs.getD i (.nil, []),e1,by rw[g,e2],?_⟩
 refine fit_agg hs hf hi ?_
 rw[List.getElem?_map,e2];rfl
theorem elems {t e:TypeId}{fuel:Nat}{v:Value}{x:DataW H×List MemPlace}(ht:Tryz.prog.underlying t=some (.slice e))(hb:1<=Tryz.prog.bytesOf e)(hp:0 < Tryz.prog.cellsOf e)(h:DataW.trod enc Tryz.prog w 0 spare held fuel t [v]=some x)(hf:Fit t x.1):
  ∃(a:Option Addr) (l c n:Nat),v= .slice a l c/\l<=140737488351232/\(0 < l->∃b off,a=some ⟨b,off,none⟩/\∀i,i < l->∃cs y,cs.length=Tryz.prog.cellsOf e/\(∀j,j < Tryz.prog.cellsOf e->w.cell? ⟨b,off+i*Tryz.prog.cellsOf e+j,none⟩=cs[j]?)/\DataW.trod enc Tryz.prog w 0 spare held n e cs=some y/\Fit e y.1):=by
 rcases open_slice ht h with ⟨h0,_⟩|⟨a,len,cap,m,n,D,Pl,hcs,_,hl,hm,hmm,rfl,hx⟩
 ·simp only[List.cons.injEq,and_true] at h0
  exact ⟨none,0,0,0,h0,by omega,fun h=>absurd h (Nat.lt_irrefl 0)⟩
 ·simp only[List.cons.injEq,and_true] at hcs
  have hlm:len<=m:=by rw[hmm];split <;> omega
  obtain ⟨f1,f2⟩:=fit_slice ht hf
  simp only[List.length_map,List.length_range] at f1
  refine ⟨some a,len,cap,n,hcs,?_,fun h0=>?_⟩
  ·have h2:(len+(m-len))*1<=(len+(m-len))*Tryz.prog.bytesOf e:=Nat.mul_le_mul_left _ hb
   omega
  ·obtain ⟨b,off,spot⟩:=a
   have hspot:spot=none:=by
    obtain ⟨cs0,g1,_⟩:=hx 0 Zo
    obtain ⟨_,hlen,hcell⟩:=World.cells?_some g1
    have:=hcell 0 hp
    rw[List.getElem?_eq_getElem Zo] at this
    simpa[Addr.add] using World.cell?_spot this
   subst hspot
   refine ⟨b,off,rfl,fun i hi=>?_⟩
   obtain ⟨cs,g1,g2⟩:=hx i Zo
   obtain ⟨_,hlen,hcell⟩:=World.cells?_some g1
   refine ⟨cs,(D i,Pl i),hlen,fun j hj=>?_,g2,f2 _ (List.mem_map.2 ⟨i,List.mem_range.2 hi,rfl⟩)⟩
   have:=hcell j hj
   rw[add_plain,add_plain] at this
   exact this
theorem trod_float {t:TypeId}{k:FloatKind}{fuel:Nat}{cs:List Value}{x:DataW H×List MemPlace}(ht:Tryz.prog.underlying t=some (.float k))(h:DataW.trod enc Tryz.prog w 0 spare held fuel t cs=some x):∃b,cs= [.float k b]:=by
 cases fuel with
 |zero=>simp[DataW.trod] at h
 |succ n=>
  unfold DataW.trod at h
  rw[ht] at h
  split at h <;> simp_all
theorem is_int {n:Nat}{v:Value}{y:DataW H×List MemPlace}{t:TypeId}(ht:Tryz.prog.underlying t=some (.int .i64))(h:DataW.trod enc Tryz.prog w 0 spare held n t [v]=some y):∃x,v= .int .i64 x:=by
 obtain ⟨x,h1,_⟩:=DataW.trod_int ht h
 exact ⟨x,by simpa using h1⟩
theorem is_string {n:Nat}{v:Value}{y:DataW H×List MemPlace}(h:DataW.trod enc Tryz.prog w 0 spare held n 9 [v]=some y)(hf:Fit 9 y.1):∃s:ByteArray,v= .string s/\s.size<=140737488351232:=by
 obtain ⟨s,h1,h2,_⟩:=DataW.trod_string Tryz.underlying9 h
 refine ⟨s,by simpa using h1,?_⟩
 rw[h2] at hf
 have:=hf s.data.toList.length (by simp[DataW.weights])
 simpa using this
theorem is_bool {n:Nat}{v:Value}{y:DataW H×List MemPlace}(h:DataW.trod enc Tryz.prog w 0 spare held n 4 [v]=some y):∃b,v= .bool b:=by
 obtain ⟨b,h1,_⟩:=DataW.trod_bool Tryz.underlying4 h
 exact ⟨b,by simpa using h1⟩
end
end Go.Proofs.YtlibofjbhhdjdaaGreat
namespace Go.Proofs.YtlibofjbhhdjdaaGreat
open Go.RowKit Go.Deep Go.ChangeShapes Go.WideShapes
theorem cells_int:Tryz.prog.cellsOf 3=1:=by kernel_rfl
theorem cells_str:Tryz.prog.cellsOf 9=1:=by kernel_rfl
theorem cells_part:Tryz.prog.cellsOf 66=10:=by kernel_rfl
theorem cells_tree:Tryz.prog.cellsOf 24=1:=by kernel_rfl
theorem bytes_int:Tryz.prog.bytesOf 3=8:=by kernel_rfl
theorem bytes_str:Tryz.prog.bytesOf 9=16:=by kernel_rfl
theorem bytes_part:Tryz.prog.bytesOf 66=120:=by kernel_rfl
section
variable {H : Type} {enc : TypeId × Value -> H} {w : World} {spare : Nat -> Bool} {held : Bool}
theorem open_intsF {n:Nat}{v:Value}{y:DataW H×List MemPlace}(h:DataW.trod enc Tryz.prog w 0 spare held n 64 [v]=some y)(hf:Fit 64 y.1):
  ∃(a:Option Addr) (l c:Nat) (f:Nat->Int),v= .slice a l c/\l<=140737488351232/\IntsAt w a l f:=by
 obtain ⟨a,l,c,m,rfl,hl,hx⟩:=elems Tryz.underlying64 (by rw[bytes_int];omega) (by rw[cells_int];omega) h hf
 by_cases h0:0 < l
 ·obtain ⟨b,off,rfl,hc⟩:=hx h0
  rw[cells_int] at hc
  obtain ⟨f,hf2⟩:=choose_lt (α:=Int) (p:=fun i x=>w.cell? ⟨b,off+i,none⟩=some (.int .i64 x)) (fun i hi=>by
   obtain ⟨cs,y',hlen,hcell,ht,_⟩:=hc i hi
   match cs,hlen with
   | [v],_=>
    obtain ⟨x,rfl⟩:=is_int Tryz.underlying3 ht
    have:=hcell 0 Zo
    simp only[Nat.mul_one,Nat.add_zero] at this
    exact ⟨x,this⟩)
  exact ⟨_,l,c,f,rfl,hl,fun _=>⟨b,off,rfl,hf2⟩⟩
 ·exact ⟨a,l,c,fun _=>0,rfl,hl,fun h=>absurd h h0⟩
theorem open_strsF {n:Nat}{v:Value}{y:DataW H×List MemPlace}(h:DataW.trod enc Tryz.prog w 0 spare held n 63 [v]=some y)(hf:Fit 63 y.1):
  ∃(a:Option Addr) (l c:Nat) (f:Nat->ByteArray),v= .slice a l c/\l<=140737488351232/\StrsAt w a l f/\∀i,i < l->(f i).size<=140737488351232:=by
 obtain ⟨a,l,c,m,rfl,hl,hx⟩:=elems Tryz.underlying63 (by rw[bytes_str];omega) (by rw[cells_str];omega) h hf
 by_cases h0:0 < l
 ·obtain ⟨b,off,rfl,hc⟩:=hx h0
  rw[cells_str] at hc
  obtain ⟨f,hf2⟩:=choose_lt (α:=ByteArray) (p:=fun i x=>w.cell? ⟨b,off+i,none⟩=some (.string x)/\x.size<=140737488351232) (fun i hi=>by
   obtain ⟨cs,y',hlen,hcell,ht,hft⟩:=hc i hi
   match cs,hlen with
   | [v],_=>
    obtain ⟨x,rfl,hs⟩:=is_string ht hft
    have:=hcell 0 Zo
    simp only[Nat.mul_one,Nat.add_zero] at this
    exact ⟨x,this,hs⟩)
  exact ⟨_,l,c,f,rfl,hl,fun _=>⟨b,off,rfl,fun i hi=>(hf2 i hi).1⟩,fun i hi=>(hf2 i hi).2⟩
 ·exact ⟨a,l,c,fun _=>ByteArray.empty,rfl,hl,fun h=>absurd h h0,fun i hi=>by omega⟩
theorem is_num {n:Nat}{v:Value}{y:DataW H×List MemPlace}{t:TypeId}(ht:Tryz.prog.underlying t=some (.int .i64))(h:DataW.trod enc Tryz.prog w 0 spare held n t [v]=some y):∃x,v= .int .i64 x/\RangeI x:=by
 obtain ⟨x,h1,_,h2⟩:=DataW.trod_int ht h
 refine ⟨x,by simpa using h1,?_⟩
 simp only[Lit.wf,Bool.and_eq_true,decide_eq_true_eq] at h2
 exact h2
theorem open_part {n:Nat}{cs:List Value}{y:DataW H×List MemPlace}(h:DataW.trod enc Tryz.prog w 0 spare held n 66 cs=some y)(hf:Fit 66 y.1):
  ∃m:PM,m.At w/\(m.Reach/\RangeI m.num)/\∀j,j < 10->cs[j]?= m.val[j]?:= by
 obtain ⟨_,n',hg⟩:=fields Tryz.underlying66 (by kernel_rfl) (by kernel_rfl) h hf
 obtain ⟨v0,y0,e0,t0,_⟩:=hg 0 _ rfl
 obtain ⟨v1,y1,e1,t1,_⟩:=hg 1 _ rfl
 obtain ⟨v2,y2,e2,t2,_⟩:=hg 2 _ rfl
 obtain ⟨v3,y3,e3,t3,_⟩:=hg 3 _ rfl
 obtain ⟨v4,y4,e4,t4,_⟩:=hg 4 _ rfl
 obtain ⟨v5,y5,e5,t5,_⟩:=hg 5 _ rfl
 obtain ⟨v6,y6,e6,t6,_⟩:=hg 6 _ rfl
 obtain ⟨v7,y7,e7,t7,f7⟩:=hg 7 _ rfl
 obtain ⟨v8,y8,e8,t8,f8⟩:=hg 8 _ rfl
 obtain ⟨v9,y9,e9,t9,f9⟩:=hg 9 _ rfl
 obtain ⟨x0,rfl⟩:=is_int Tryz.underlying3 t0
 obtain ⟨x1,rfl⟩:=is_int Tryz.underlying3 t1
 obtain ⟨x2,rfl⟩:=is_int Tryz.underlying3 t2
 obtain ⟨x3,rfl⟩:=is_int Tryz.underlying3 t3
 obtain ⟨x4,rfl⟩:=is_int Tryz.underlying3 t4
 obtain ⟨x5,rfl,hx5⟩:=is_num Tryz.underlying2 t5
 obtain ⟨x6,h6⟩:=trod_float Tryz.underlying62 t6
 simp only[List.cons.injEq,and_true] at h6
 subst h6
 obtain ⟨s7,rfl,hs7⟩:=is_string t7 f7
 obtain ⟨a8,l8,c8,g8,rfl,hl8,hi8,hr8⟩:=open_strsF t8 f8
 obtain ⟨a9,l9,c9,g9,rfl,hl9,hi9⟩:=open_intsF t9 f9
 refine ⟨⟨⟨x0,x1,x2,x3,x4,x5,x6,s7,l8,g8,l9,g9⟩,a8,c8,a9,c9⟩,⟨hi8,hi9⟩,⟨⟨hs7,hl8,hl9,hr8⟩,hx5⟩,fun j hj=>?_⟩
 have cs':j=0\/j=1\/j=2\/j=3\/j=4\/j=5\/j=6\/j=7\/j=8\/j=9:=Zo
 rcases cs' with rfl|rfl|rfl|rfl|rfl|rfl|rfl|rfl|rfl|rfl
 ·exact e0
 ·exact e1
 ·exact e2
 ·exact e3
 ·exact e4
 ·exact e5
 ·exact e6
 ·exact e7
 ·exact e8
 ·exact e9
theorem open_parts {n:Nat}{v:Value}{y:DataW H×List MemPlace}(h:DataW.trod enc Tryz.prog w 0 spare held n 22 [v]=some y)(hf:Fit 22 y.1):
  ∃t:TM,v= .slice t.pa t.np t.pc/\t.np<=140737488351232/\t.At w/\∀i,i < t.np->((t.pm i).Reach/\RangeI (t.pm i).num):=by
 obtain ⟨a,l,c,m,rfl,hl,hx⟩:=elems Tryz.underlying22 (by rw[bytes_part];omega) (by rw[cells_part];omega) h hf
 by_cases h0:0 < l
 ·obtain ⟨b,off,rfl,hc⟩:=hx h0
  rw[cells_part] at hc
  have:Inhabited PM:=⟨pm0⟩
  obtain ⟨pm,hf2⟩:=choose_lt (α:=PM) (p:=fun i x=>PartCells w b (off+i*10) x/\x.At w/\(x.Reach/\RangeI x.num)) (fun i hi=>by
   obtain ⟨cs,y',hlen,hcell,ht,hft⟩:=hc i hi
   obtain ⟨m,h1,h2,h3⟩:=open_part ht hft
   exact ⟨m,⟨(hcell 0 Zo).trans (h3 0 Zo),(hcell 1 Zo).trans (h3 1 Zo),(hcell 2 Zo).trans (h3 2 Zo),(hcell 3 Zo).trans (h3 3 Zo),(hcell 4 Zo).trans (h3 4 Zo),(hcell 5 Zo).trans (h3 5 Zo),(hcell 6 Zo).trans (h3 6 Zo),(hcell 7 Zo).trans (h3 7 Zo),(hcell 8 Zo).trans (h3 8 Zo),(hcell 9 Zo).trans (h3 9 Zo)⟩,h1,h2⟩)
  exact ⟨⟨l,pm,some ⟨b,off,none⟩,c⟩,rfl,hl,⟨fun _=>⟨b,off,rfl,fun i hi=>(hf2 i hi).1⟩,fun i hi=>(hf2 i hi).2.1⟩,fun i hi=>(hf2 i hi).2.2⟩
 ·exact ⟨⟨l,fun _=>pm0,a,c⟩,rfl,hl,⟨fun h=>absurd h h0,fun i hi=>absurd (show 0 < l from Nat.lt_of_le_of_lt (Nat.zero_le _) hi) h0⟩,fun i hi=>absurd (show 0 < l from Nat.lt_of_le_of_lt (Nat.zero_le _) hi) h0⟩
end
end Go.Proofs.YtlibofjbhhdjdaaGreat
namespace Go.Proofs.YtlibofjbhhdjdaaGreat
open Go.RowKit
attribute [local go_sem] rsf
variable {np pc:Nat} {pm:Nat->PM} {pa:Option Addr} {w:World}
theorem fixed_else {w0:World}{wp:Nat}{tv:Value}(htv:tv= .slice pa np pc)(ha:PartsAt w0 pa np pm){i:Nat}(hi:i < np)(hk:(pm i).kind≠20/\(pm i).kind≠21/\(pm i).kind≠22/\(pm i).kind≠23/\(pm i).kind≠24/\(pm i).kind≠25/\(pm i).kind≠26/\(pm i).kind≠30/\(pm i).kind≠31/\(pm i).kind≠28/\(pm i).kind≠29):FixAt w0 wp tv i:=by
 intro w own V R B lp rs s l h hs hsf hB
 obtain ⟨pb,po,hpa,hpc⟩:=ha.1 Zo
 obtain ⟨c0,c1,c2,c3,c4,c5,c6,c7,c8,c9⟩:=(hpc i hi).onw h.wk.ov
 have zc:=clt c0
 have b0:w.cell? ⟨wp,0,none⟩=some (.slice (some ⟨pb,po,none⟩) np pc):=Zi
 have zb:=h.blk.lt
 have i0:(0:Int)<=(i:Int):=Zo
 have i1:(i:Int) < (np:Int):=Zo
 have HH:Hid _:=h
 have HS:Hid _:=hs
 have HSF:Hid _:=hsf
 have HA:Hid _:=ha
 have HTV:Hid _:=htv
 have k20:((pm i).kind==20)=false:=Zd
 have k21:((pm i).kind==21)=false:=Zd
 have k22:((pm i).kind==22)=false:=Zd
 have k23:((pm i).kind==23)=false:=Zd
 have k24:((pm i).kind==24)=false:=Zd
 have k25:((pm i).kind==25)=false:=Zd
 have k26:((pm i).kind==26)=false:=Zd
 have k30:((pm i).kind==30)=false:=Zd
 have k31:((pm i).kind==31)=false:=Zd
 have k28:((pm i).kind==28)=false:=Zd
 have k29:((pm i).kind==29)=false:=Zd
 clear h hs hsf ha hpc htv hpa hk
 go_enter Tryz.func83,Tryz.ntmps83
 go_upto_region 5 with (fail)
 have F0:Hid (Fx w _ #[.int .i64 (pm i).kind,.int .i64 (pm i).frm,.int .i64 (pm i).tto,.int .i64 (pm i).line,.int .i64 (pm i).op,.int .i64 (pm i).num,.float .f64 (pm i).flt,.string (pm i).text,.slice (pm i).na (pm i).nn (pm i).nc,.slice (pm i).ka (pm i).nk (pm i).kc] #[.int .i64 i,.int .i64 1,.int .i64 0,.int .i64 0,.float .f64 0,.string {data:= #[]},.int .i64 0] #[.int .i64 i,.int .i64 0,.int .i64 0,.int .i64 0,.float .f64 0,.string {data:= #[]},.int .i64 0]):=Fx.start w _ _ _
 generalize (((w.alloc (Obj.cells #[.int .i64 0,.int .i64 0,.int .i64 0,.int .i64 0,.float .f64 0,.string {data:= #[]},.int .i64 0] 157)).alloc (Obj.cells #[.int .i64 (pm i).kind,.int .i64 (pm i).frm,.int .i64 (pm i).tto,.int .i64 (pm i).line,.int .i64 (pm i).op,.int .i64 (pm i).num,.float .f64 (pm i).flt,.string (pm i).text,.slice (pm i).na (pm i).nn (pm i).nc,.slice (pm i).ka (pm i).nk (pm i).kc] 67)).alloc (Obj.cells #[.int .i64 i,.int .i64 1,.int .i64 0,.int .i64 0,.float .f64 0,.string {data:= #[]},.int .i64 0] 157)).alloc (Obj.cells #[.int .i64 i,.int .i64 0,.int .i64 0,.int .i64 0,.float .f64 0,.string {data:= #[]},.int .i64 0] 157)=wF at*
 clear zc b0 zb c0 c1 c2 c3 c4 c5 c6 c7 c8 c9
 have y0:=Blk.at_ F0.out.rb 0 rfl
 have y1:=Blk.at_ F0.out.rb 1 rfl
 have y2:=Blk.at_ F0.out.rb 2 rfl
 have y3:=Blk.at_ F0.out.rb 3 rfl
 have y4:=Blk.at_ F0.out.rb 4 rfl
 have y5:=Blk.at_ F0.out.rb 5 rfl
 have y6:=Blk.at_ F0.out.rb 6 rfl
 have yf:=Blk.free F0.out.rb
 have yz:=Blk.lt F0.out.rb
 have d0:=Blk.at_ F0.out.bb 0 rfl
 have d1:=Blk.at_ F0.out.bb 1 rfl
 have d2:=Blk.at_ F0.out.bb 2 rfl
 have d3:=Blk.at_ F0.out.bb 3 rfl
 have d4:=Blk.at_ F0.out.bb 4 rfl
 have d5:=Blk.at_ F0.out.bb 5 rfl
 have d6:=Blk.at_ F0.out.bb 6 rfl
 have df:=Blk.free F0.out.bb
 have dz:=Blk.lt F0.out.bb
 have g0:=Blk.at_ F0.out.gb 0 rfl
 have g1:=Blk.at_ F0.out.gb 1 rfl
 have g2:=Blk.at_ F0.out.gb 2 rfl
 have g3:=Blk.at_ F0.out.gb 3 rfl
 have g4:=Blk.at_ F0.out.gb 4 rfl
 have g5:=Blk.at_ F0.out.gb 5 rfl
 have g6:=Blk.at_ F0.out.gb 6 rfl
 have gf:=Blk.free F0.out.gb
 have gz:=Blk.lt F0.out.gb
 go_wp2_with fail
 exact bodyPost_ret (v:= .agg #[.int .i64 i,.int .i64 1,.int .i64 0,.int .i64 0,.float .f64 0,.string {data:= #[]},.int .i64 0]) J271 rfl ⟨⟨⟨1,0,0,0,{data:= #[]},0⟩,rfl,Vok.zero⟩,bset (bset (bset (bset (bset (bset (bset (F0.out.o) Zo _) Zo _) Zo _) Zo _) Zo _) Zo _) Zo _⟩
theorem ownsRow_base {b b':Nat}{e:TypeId}{z:Nat}{v:Value}{n:Nat}{xs:List Value}(h:w.ownsRow b e z v n xs)(hb:b'<=b):w.ownsRow b' e z v n xs:=by
 refine ⟨h.1,h.2.imp id ?_⟩
 exact J198
theorem specT_zero {pd:Nat->PD}(h:(specT pd np).1=0):specT pd np=(0,0):=by
 unfold specT at h ⊢
 cases h0:(decide (0 < np)&&(decide (np<=3000)&&((pd (np-1)).kind==1)))
 ·rw[h0] at h;simp at h
 rw[h0] at h
 simp only[cond_true] at h ⊢
 cases h2:firstBad (fun i=>nodeP pd (pd i) i) 0 np with
 |some i=>rw[h2] at h;simp[after] at h
 |none=>
  rw[h2] at h
  simp only[after] at h ⊢
  cases h3:firstBad (fun i=>!(sizesN pd np i==0)) 0 np with
  |some i=>rw[h3] at h;simp at h
  |none=>
   rw[h3] at h
   simp only at h ⊢
   cases h4:(sizesN pd np (np-1)==(np:Int))
   ·rw[h4] at h;simp at h
   ·rw[h4] at h
    simp only[cond_true] at h ⊢
    cases h5:firstBad (fun i=>decide (depD pd np np i<=100)) 0 np with
    |some i=>rw[h5] at h;simp at h
    |none=>rfl
def UsesM (FX:List SNm->Nat->CV->Prop) (pd:Nat->PD) (np:Nat) (els:List (List Value)):Prop:=
 (specT pd np≠(0,0)/\els= [])\/(specT pd np=(0,0)/\∃s,Rel pd FX 0 0 true (np-1) St.none_ s/\els=s.uses)
theorem usesM_any {FX:List SNm->Nat->CV->Prop}(hn:np<=1048576)(hs:∀i,i < np->(pm i).Slight)(ha:PartsAt w pa np pm)(cap:∀i,i < np->(pm i).nk<=(pm i).kc)(fx:specT (pdOf pm) np=(0,0)->∀wx wp,Onw w wx->FixOk wx wp (.slice pa np pc) np FX):
  Calls Tryz.prog 5 #[.agg #[.slice pa np pc]] w fun e w'=>∃va n vc els,e= .returned (.slice va n vc)/\Onw w w'/\w'.ownsRow w.heap.size 58 4 (.slice va n vc) els.length els.flatten/\(∀x∈els,x.length=4)/\UsesM FX (pdOf pm) np els:=by
 have HS:Hid _:=hs
 have HA:Hid _:=ha
 have HC:Hid _:=cap
 have HX:Hid _:=fx
 have T0:=Blk.new w 30 #[.slice pa np pc]
 have O0:=Onw.alloc w (.cells #[.slice pa np pc] 30)
 clear hs ha cap fx
 go_enter Tryz.func5,Tryz.ntmps5
 go_wp2_with fail
 generalize w.alloc (.cells #[.slice pa np pc] 30)=wA at*
 have hcall:=specTree_any ⟨np,pm,pa,pc⟩ wA hn HS.out (PartsAt.onw O0 HA.out)
 refine hcall.mono ?_
 rintro e w1 ⟨rfl,b1⟩
 clear hcall
 have O1:Hid (Onw w w1):=O0.trans b1
 have t0:w1.cell? ⟨w.heap.size,0,none⟩=some (.slice pa np pc):=(Blk.cell (Blk.onw b1 T0) 0).trans rfl
 have zt:=clt t0
 clear b1 T0 O0
 by_cases hz:specT (pdOf pm) np=(0,0)
 ·have z1:(specT (pdOf pm) np).1=0:=by rw[hz]
  have z2:(specT (pdOf pm) np).2=0:=by rw[hz]
  have HZ:Hid _:=hz
  obtain ⟨n,rfl⟩:∃n,np=n+1:=⟨np-1,by have:=(sound_tr (pc:=pc) HA.out hz).2.2.1;omega⟩
  simp only[z1,z2]
  clear hz z1 z2
  go_wp2_with fail
  have O2:Hid (Onw w (w1.alloc (.cells #[.int .i64 0,.int .i64 0] 39))):=O1.out.trans (Onw.alloc _ _)
  generalize w1.alloc (.cells #[.int .i64 0,.int .i64 0] 39)=w2 at*
  refine (walk_ws (pc:=pc) (PartsAt.onw O2.out HA.out) HZ.out HC.out (fun wp=>HX.out HZ.out w2 wp O2.out)).mono ?_
  rintro e w3 ⟨wp,own,V,R,B,s,rfl,h3,a3,hB,r3⟩
  have b4:=Blk.at_ h3.blk 4 rfl
  have zb:=h3.blk.lt
  have row:=h3.wk.rows 4 Zo Zo
  obtain ⟨va,vn,vc,hv⟩:∃a b c,V 4= .slice a b c:=by
   rcases row.row.2 with ⟨e1,_⟩|⟨g,cap,cur,e1,_⟩ <;> exact ⟨_,_,_,e1⟩
  rw[hv] at b4 row
  have FIN:Hid (Onw w w3/\w3.ownsRow w.heap.size 58 4 (.slice va vn vc) (R 4).length (R 4).flatten/\(∀x∈R 4,x.length=4)/\UsesM FX (pdOf pm) (n+1) (R 4)):=⟨O2.out.trans h3.wk.ov,ownsRow_base row.row O2.out.size,row.len,Or.inr ⟨HZ.out,s,r3,a3.r4⟩⟩
  clear h3 a3 r3 row hv t0 zt
  go_wp2_with fail
  go_ret
  exact ⟨va,vn,vc,R 4,rfl,FIN.out⟩
 ·obtain ⟨c,hc,hc0⟩:∃c,(specT (pdOf pm) np).1=c/\c≠0:=by
   refine ⟨_,rfl,fun e=>hz ?_⟩
   exact specT_zero e
  have HZ:Hid _:=hz
  rw[hc]
  clear hz hc
  go_wp2_with fail
  go_ret
  exact ⟨none,0,0, [],rfl,O1.out.trans (Onw.alloc _ _),World.ownsRow_nil _ _ _ _,fun x hx=>by simp at hx,Or.inl ⟨HZ.out,rfl⟩⟩
end Go.Proofs.YtlibofjbhhdjdaaGreat
namespace Go.Proofs.YtlibofjbhhdjdaaGreat
open Go.RowKit
variable {np pc wp:Nat} {pm:Nat->PM} {pa:Option Addr} {w0:World}
theorem fix_all {tv:Value}(htv:tv= .slice pa np pc)(ha:PartsAt w0 pa np pm)(hn:∀i,i < np->nodeP (pdOf pm) (pdOf pm i) i=true)(hr:∀i,i < np->RangeI (pm i).num):∀i,i < np->FixAt w0 wp tv i:=by
 intro i
 induction i using Nat.strongRecOn with
 |ind i ih=>
  intro hi
  have K:(pdOf pm i).kind=(pm i).kind:=rfl
  obtain ⟨_,_,_,ex⟩:=node_parts (hn i hi)
  have E:∀{k:Int},(pm i).kind=k->statP k=false->expnP (pdOf pm) (pdOf pm i)=true:=fun h hs=>ex (by rw[K,h];exact hs)
  have kid:∀j,j < (pm i).nk->∃a:Nat,(pm i).kd j=a/\FixAt w0 wp tv a:=fun j hj=>by
   have k:=nodeP_kids (hn i hi) j hj
   have e:(pdOf pm i).kd j=(pm i).kd j:=rfl
   rw[e] at k
   exact ⟨((pm i).kd j).toNat,by omega,ih _ Zo Zo⟩
  by_cases h20:(pm i).kind=20
  ·exact fixed_k20 htv ha hi h20
  by_cases h21:(pm i).kind=21
  ·exact fixed_k21 htv ha hi h21
  by_cases h22:(pm i).kind=22
  ·exact fixed_k22 htv ha hi h22
  by_cases h23:(pm i).kind=23
  ·exact fixed_k23 htv ha hi h23 (hr i hi)
  by_cases h24:(pm i).kind=24
  ·exact fixed_k24 htv ha hi h24
  by_cases h25:(pm i).kind=25
  ·have s:=E h25 rfl
   unfold expnP at s
   rw[K,h25] at s
   replace s:expn25 (pdOf pm) (pdOf pm i)=true:=s
   simp only[expn25,Bool.and_eq_true,decide_eq_true_eq] at s
   exact fixed_k25 htv ha hi h25 s.2.1
  by_cases h26:(pm i).kind=26
  ·exact fixed_k26 htv ha hi h26
  by_cases h30:(pm i).kind=30
  ·have s:=E h30 rfl
   unfold expnP at s
   rw[K,h30] at s
   replace s:expn30 (pdOf pm) (pdOf pm i)=true:=s
   simp only[expn30,Bool.and_eq_true,decide_eq_true_eq] at s
   have n1:(pm i).nk=1:=s.1
   obtain ⟨a,e,f⟩:=kid 0 Zo
   exact fixed_k30 htv ha hi h30 n1 e f
  by_cases h31:(pm i).kind=31
  ·have s:=E h31 rfl
   unfold expnP at s
   rw[K,h31] at s
   replace s:expn31 (pdOf pm) (pdOf pm i)=true:=s
   simp only[expn31,Bool.and_eq_true,decide_eq_true_eq] at s
   have n1:(pm i).nk=2:=s.1
   obtain ⟨a,e,f⟩:=kid 0 Zo
   obtain ⟨b,e',f'⟩:=kid 1 Zo
   exact fixed_k31 htv ha hi h31 n1 e e' f f'
  by_cases h28:(pm i).kind=28
  ·have s:=E h28 rfl
   unfold expnP at s
   rw[K,h28] at s
   replace s:expn28 (pdOf pm) (pdOf pm i)=true:=s
   simp only[expn28,Bool.and_eq_true,decide_eq_true_eq] at s
   have n1:(pm i).nk=2:=s.1
   obtain ⟨a,e,f⟩:=kid 0 Zo
   obtain ⟨b,e',f'⟩:=kid 1 Zo
   exact fixed_k28 htv ha hi h28 n1 e e' f f'
  by_cases h29:(pm i).kind=29
  ·have s:=E h29 rfl
   unfold expnP at s
   rw[K,h29] at s
   replace s:expn29 (pdOf pm) (pdOf pm i)=true:=s
   simp only[expn29,Bool.and_eq_true,decide_eq_true_eq] at s
   have n1:(pm i).nk=2:=s.1
   obtain ⟨a,e,f⟩:=kid 0 Zo
   obtain ⟨b,e',f'⟩:=kid 1 Zo
   exact fixed_k29 htv ha hi h29 n1 e e' f f'
  exact fixed_else htv ha hi ⟨h20,h21,h22,h23,h24,h25,h26,h30,h31,h28,h29⟩
theorem sound_nodes (hs:specT (pdOf pm) np=(0,0)):∀i,i < np->nodeP (pdOf pm) (pdOf pm i) i=true:=by
 unfold specT at hs
 cases h0:(decide (0 < np)&&(decide (np<=3000)&&((pdOf pm (np-1)).kind==1)))
 ·rw[h0] at hs;simp at hs
 rw[h0] at hs
 simp only[cond_true] at hs
 cases h2:firstBad (fun i=>nodeP (pdOf pm) (pdOf pm i) i) 0 np with
 |some i=>rw[h2] at hs;simp[after] at hs
 |none=>exact fun i hi=>firstBad_no h2 i (Nat.zero_le _) Zo
theorem fix_ok (ha:PartsAt w0 pa np pm)(hs:specT (pdOf pm) np=(0,0))(hr:∀i,i < np->RangeI (pm i).num):FixOk w0 wp (.slice pa np pc) np (fun _ _ _=>True):=by
 intro w own V R B lp rs s l i h a f hB hi
 refine (fix_all (pc:=pc) rfl ha (sound_nodes hs) hr i hi w own V R B lp rs s l h a f hB).mono ?_
 rintro e w' ⟨⟨c,rfl,v⟩,o⟩
 exact ⟨c,rfl,trivial,v,o⟩
def usesE (pd:Nat->PD) (np:Nat):List (List Value):=if specT pd np=(0,0) then (wE pd 0 (np-1) []).1 else []
theorem specUses_any {w:World}(hn:np<=1048576)(hs:∀i,i < np->(pm i).Slight)(ha:PartsAt w pa np pm)(cap:∀i,i < np->(pm i).nk<=(pm i).kc)(hr:∀i,i < np->RangeI (pm i).num):
  Calls Tryz.prog 5 #[.agg #[.slice pa np pc]] w fun e w'=>∃va n vc,e= .returned (.slice va n vc)/\Onw w w'/\w'.ownsRow w.heap.size 58 4 (.slice va n vc) (usesE (pdOf pm) np).length (usesE (pdOf pm) np).flatten/\∀x∈usesE (pdOf pm) np,x.length=4:=by
 refine (usesM_any (FX:=fun _ _ _=>True) hn hs ha cap (fun hz wx wp o=>fix_ok (PartsAt.onw o ha) hz hr)).mono ?_
 rintro e w' ⟨va,n,vc,els,rfl,o,row,len,um⟩
 have e:els=usesE (pdOf pm) np:=by
  unfold usesE
  rcases um with ⟨h1,h2⟩|⟨h1,s,h2,h3⟩
  ·rw[if_neg h1];exact h2
  ·rw[if_pos h1,h3]
   obtain ⟨tr,sh,h0,_,_⟩:=sound_tr (pc:=pc) ha h1
   obtain ⟨g,_,_⟩:=rel_got tr.kid sh (np-1) Zo _ _ _ _ _ h2
   rw[g]
   rfl
 rw[<-e]
 exact ⟨va,n,vc,rfl,o,row,len⟩
end Go.Proofs.YtlibofjbhhdjdaaGreat
