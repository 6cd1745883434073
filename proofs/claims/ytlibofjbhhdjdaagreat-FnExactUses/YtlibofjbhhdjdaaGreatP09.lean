import Derived.Test.YtlibofjbhhdjdaaGreatQ
import Derived.Test.YtlibofjbhhdjdaaGreatP06
import Derived.Test.YtlibofjbhhdjdaaGreatP08
set_option linter.unusedSimpArgs false
set_option maxRecDepth 100000
set_option maxHeartbeats 16000000
namespace Go.Proofs.YtlibofjbhhdjdaaGreat
open Go.RowKit
variable {l:Nat} {s s':St}
structure CV where
 code:Int
 kind:Int
 num:Int
 flt:Nat
 str:ByteArray
 ref:Int
def cvOk (c:CV):Bool:=c.code==0&&litB c.kind c.flt
def cvBad:CV:=⟨1,0,0,0,ByteArray.empty,0⟩
def cvOf (c:CV):CV:=bif cvOk c then c else cvBad
def constN (i:Nat) (name:ByteArray) (l:Nat) (c:CV):SNm:=⟨name,i,0,l,true,c.code,c.kind,c.num,c.flt,c.str,c.ref,0⟩
def St.const (s:St) (i:Nat) (c:CV):St:={s with consts:=s.consts++ [[.int .i64 i,.int .i64 c.code,.int .i64 c.kind,.int .i64 c.num,.float .f64 c.flt,.string c.str,.int .i64 c.ref]]}
def St.shade (s:St) (l i:Nat) (place:Nat) (name:ByteArray):St:=bif shadowB (scF s.sc) s.sc.length (l+1) i name then s.note i place 3 else s
def constS (i:Nat) (name:ByteArray) (l:Nat) (c:CV) (s:St):St:=
 ((((bif cvOk c then s else s.fault 6 i).shade l i 0 name).decl i 0).const i (cvOf c)).name (constN i name l (cvOf c))
def deadB (k:Int):Bool:=k==13||k==11||k==12||k==15
def plainB (k:Int):Bool:=!(k==26||k==27||k==36||k==2||k==3||k==4||k==5||k==7||k==8||k==9||k==10||k==11||k==12||k==14||k==1)
structure RelC (pd:Nat->PD) (FX:List SNm->Nat->CV->Prop) (R:Nat->Int->Bool->Nat->St->St->Prop) (S B:Nat->Int->Bool->(Nat->Int)->Nat->St->St->Prop) (T:Nat->Int->Bool->Int->(Nat->Int)->Nat->St->St->Prop):Prop where
 name:∀{l lo re i s},(pd i).kind=26->R l lo re i s (nameS l i (pd i).text false s)
 rest:∀{l lo re i s},(pd i).kind=27->R l lo re i s (bif re then s else s.fault 5 i)
 fn:∀{l lo re i s s1 vs},(pd i).kind=36->R (l+1) 0 ((pd i).op==1) ((pd i).kd 0).toNat (s.declare i (pd i).nm (l+1) vs (pd i).nn) s1->R l lo re i s (s1.cut s.sc.length)
 let_:∀{l lo re i s s1 vs},(pd i).kind=2->S l lo re (pd i).kd (pd i).nk s s1->R l lo re i s (s1.declare i (pd i).nm l vs (pd i).nn)
 const:∀{l lo re i s s1 c},(pd i).kind=3->FX s.sc ((pd i).kd 0).toNat c->R l lo re ((pd i).kd 0).toNat s s1->R l lo re i s (constS i ((pd i).nm 0) l c s1)
 sfn:∀{l lo re i s s1 vs},(pd i).kind=4->R l lo re ((pd i).kd 0).toNat (s.declare i (pd i).nm l vs (pd i).nn) s1->R l lo re i s s1
 set:∀{l lo re i s s1},(pd i).kind=5->T l lo re (pd i).num (pd i).kd (pd i).nk s s1->R l lo re i s s1
 if_:∀{l lo re i s s1 c},(pd i).kind=7->FX s.sc ((pd i).kd 0).toNat c->S l lo re (pd i).kd (pd i).nk (bif c.code==0 then s.note ((pd i).kd 0) 0 5 else s) s1->R l lo re i s s1
 while_:∀{l lo re i s s1 s2},(pd i).kind=8->R l lo re ((pd i).kd 0).toNat s s1->R l (lo+1) re ((pd i).kd 1).toNat s1 s2->R l lo re i s s2
 for_:∀{l lo re i s s1 s2 vs},(pd i).kind=9\/(pd i).kind=10->S l lo re (pd i).kd ((pd i).nk-1) s s1->R l (lo+1) re ((pd i).kd ((pd i).nk-1)).toNat (s1.declare i (pd i).nm l vs (pd i).nn) s2->R l lo re i s (s2.cut s.sc.length)
 brk:∀{l lo re i s},(pd i).kind=11\/(pd i).kind=12->R l lo re i s (bif lo==0 then s.fault 4 i else s)
 try_:∀{l lo re i s s1 s2 vs},(pd i).kind=14->R l lo re ((pd i).kd 0).toNat s s1->R l lo re ((pd i).kd 1).toNat (s1.declare i (pd i).nm l vs (pd i).nn) s2->R l lo re i s (s2.cut s.sc.length)
 block:∀{l lo re i s s1},(pd i).kind=1->B l lo re (pd i).kd (pd i).nk s s1->R l lo re i s (s1.cut s.sc.length)
 plain:∀{l lo re i s s1},plainB (pd i).kind=true->S l lo re (pd i).kd (pd i).nk s s1->R l lo re i s s1
 snil:∀{l lo re kd s},S l lo re kd 0 s s
 ssnoc:∀{l lo re kd c s s1 s2},S l lo re kd c s s1->R l lo re (kd c).toNat s1 s2->S l lo re kd (c+1) s s2
 bnil:∀{l lo re kd s},B l lo re kd 0 s s
 bfirst:∀{l lo re kd s s1 s2},B l lo re kd 0 s s1->R l lo re (kd 0).toNat s1 s2->B l lo re kd 1 s s2
 bsnoc:∀{l lo re kd c s s1 s2},B l lo re kd (c+1) s s1->R l lo re (kd (c+1)).toNat (bif deadB (pd (kd c).toNat).kind then s1.note (kd (c+1)) 0 4 else s1) s2->B l lo re kd (c+2) s s2
 tnil:∀{l lo re n kd s},T l lo re n kd 0 s s
 tname:∀{l lo re n kd c s s1},T l lo re n kd c s s1->(c:Int) < n->(pd (kd c).toNat).kind=26->T l lo re n kd (c+1) s (nameS l (kd c).toNat (pd (kd c).toNat).text true s1)
 texpr:∀{l lo re n kd c s s1 s2},T l lo re n kd c s s1->n<=(c:Int)\/(pd (kd c).toNat).kind≠26->R l lo re (kd c).toNat s1 s2->T l lo re n kd (c+1) s s2
def Rel (pd:Nat->PD) (FX:List SNm->Nat->CV->Prop) (l:Nat) (lo:Int) (re:Bool) (i:Nat) (s s':St):Prop:=∀R S B T,RelC pd FX R S B T->R l lo re i s s'
def SeqR (pd:Nat->PD) (FX:List SNm->Nat->CV->Prop) (l:Nat) (lo:Int) (re:Bool) (kd:Nat->Int) (c:Nat) (s s':St):Prop:=∀R S B T,RelC pd FX R S B T->S l lo re kd c s s'
def BlkR (pd:Nat->PD) (FX:List SNm->Nat->CV->Prop) (l:Nat) (lo:Int) (re:Bool) (kd:Nat->Int) (c:Nat) (s s':St):Prop:=∀R S B T,RelC pd FX R S B T->B l lo re kd c s s'
def TgtR (pd:Nat->PD) (FX:List SNm->Nat->CV->Prop) (l:Nat) (lo:Int) (re:Bool) (n:Int) (kd:Nat->Int) (c:Nat) (s s':St):Prop:=∀R S B T,RelC pd FX R S B T->T l lo re n kd c s s'
theorem relC {pd:Nat->PD}{FX:List SNm->Nat->CV->Prop}:RelC pd FX (Rel pd FX) (SeqR pd FX) (BlkR pd FX) (TgtR pd FX) where
 name a _ _ _ _ C:=C.name a
 rest a _ _ _ _ C:=C.rest a
 fn a b _ _ _ _ C:=C.fn a (b _ _ _ _ C)
 let_ a b _ _ _ _ C:=C.let_ a (b _ _ _ _ C)
 const a b c _ _ _ _ C:=C.const a b (c _ _ _ _ C)
 sfn a b _ _ _ _ C:=C.sfn a (b _ _ _ _ C)
 set a b _ _ _ _ C:=C.set a (b _ _ _ _ C)
 if_ a b c _ _ _ _ C:=C.if_ a b (c _ _ _ _ C)
 while_ a b c _ _ _ _ C:=C.while_ a (b _ _ _ _ C) (c _ _ _ _ C)
 for_ a b c _ _ _ _ C:=C.for_ a (b _ _ _ _ C) (c _ _ _ _ C)
 brk a _ _ _ _ C:=C.brk a
 try_ a b c _ _ _ _ C:=C.try_ a (b _ _ _ _ C) (c _ _ _ _ C)
 block a b _ _ _ _ C:=C.block a (b _ _ _ _ C)
 plain a b _ _ _ _ C:=C.plain a (b _ _ _ _ C)
 snil _ _ _ _ C:=C.snil
 ssnoc a b _ _ _ _ C:=C.ssnoc (a _ _ _ _ C) (b _ _ _ _ C)
 bnil _ _ _ _ C:=C.bnil
 bfirst a b _ _ _ _ C:=C.bfirst (a _ _ _ _ C) (b _ _ _ _ C)
 bsnoc a b _ _ _ _ C:=C.bsnoc (a _ _ _ _ C) (b _ _ _ _ C)
 tnil _ _ _ _ C:=C.tnil
 tname a b c _ _ _ _ C:=C.tname (a _ _ _ _ C) b c
 texpr a b c _ _ _ _ C:=C.texpr (a _ _ _ _ C) b (c _ _ _ _ C)
def Vok (num:Int) (str:ByteArray):Prop:= -9223372036854775808<=num/\num<=9223372036854775807/\str.size<=4000
theorem Vok.zero:Vok 0 ByteArray.empty:=⟨by decide,by decide,by decide⟩
def SFn (s:St) (l:Nat):Prop:=∀x∈s.sc,(∃q:Nat,x.fn=q/\q<=l)/\Vok x.num x.str
theorem SFn.of (h:SFn s l)(e:s'.sc=s.sc):SFn s' l:=by unfold SFn;rw[e];exact h
theorem SFn.up {l l':Nat}(h:SFn s l)(hl:l<=l'):SFn s l':=fun x hx=>by obtain ⟨⟨q,a,b⟩,c⟩:=h x hx;exact ⟨⟨q,a,by omega⟩,c⟩
def Adds (s s':St) (l:Nat):Prop:=∃t,s'.sc=s.sc++t/\∀x∈t,x.fn=(l:Int)/\Vok x.num x.str
theorem Adds.refl (s:St)(l:Nat):Adds s s l:=⟨[],by simp,fun x hx=>by simp at hx⟩
theorem Adds.of (e:s'.sc=s.sc):Adds s s' l:=⟨[],by rw[e];simp,fun x hx=>by simp at hx⟩
theorem Adds.trans {a b c:St}(h:Adds a b l)(k:Adds b c l):Adds a c l:=by
 obtain ⟨t,h1,h2⟩:=h
 obtain ⟨u,k1,k2⟩:=k
 exact ⟨t++u,by rw[k1,h1,List.append_assoc],fun x hx=>(List.mem_append.1 hx).elim (h2 x) (k2 x)⟩
theorem SFn.adds (h:SFn s l)(k:Adds s s' l):SFn s' l:=by
 obtain ⟨t,e,ht⟩:=k
 intro x hx
 rw[e] at hx
 rcases List.mem_append.1 hx with hx|hx
 ·exact h x hx
 ·exact ⟨⟨l,(ht x hx).1,Nat.le_refl _⟩,(ht x hx).2⟩
theorem Adds.cut (h:Adds s s' l):(s'.cut s.sc.length).sc=s.sc:=by
 obtain ⟨t,e,_⟩:=h
 show s'.sc.take _=_
 rw[e];simp
theorem Adds.declare (s:St)(part:Int)(nm:Nat->ByteArray)(l:Nat)(vs:Nat->Int):∀c,Adds s (s.declare part nm l vs c) l
 |0=>Adds.refl _ _
 |c+1=>by
  refine (Adds.declare s part nm l vs c).trans ⟨[varN (nm c) part c l (vs c)],?_,fun x hx=>by rw[List.mem_singleton.1 hx];exact ⟨rfl,Vok.zero⟩⟩
  exact J151
theorem close_sc (s:St)(a b:Int):(s.close a b).sc=s.sc:=by
 unfold St.close;cases closedB (clF s.closed) a b 0 s.closed.length <;> rfl
theorem nameS_sc (l i:Nat)(t:ByteArray)(write:Bool)(s:St):(nameS l i t write s).sc=s.sc:=by
 have h1:(nameA l t write s).sc=s.sc:=by
  unfold nameA
  split
  ·unfold nameX
   cases (scF s.sc (findS (scF s.sc) t s.sc.length).toNat).fixed
   ·cases (scF s.sc (findS (scF s.sc) t s.sc.length).toNat).fn==(l:Int)
    ·simp only[cond_false];rw[close_sc];cases write <;> rfl
    ·cases write <;> rfl
   ·cases write <;> rfl
  ·rfl
 unfold nameS nameF
 cases (useK s l t).1==0
 ·cases (write&&((useK s l t).1==3||(useK s l t).1==4))
  ·exact h1
  ·exact h1
 ·exact h1
def psum (sz:Nat->Nat) (kd:Nat->Int):Nat->Nat
 |0=>0
 |c+1=>psum sz kd c+sz (kd c).toNat
structure Tr (w0:World) (tv:Value) (np:Nat) (pm:Nat->PM) (sz:Nat->Nat):Prop where
 at_:∃pa pc,tv= .slice pa np pc/\PartsAt w0 pa np pm
 npl:np<=3000
 kid:∀i,i < np->∀j,j < (pm i).nk->0<=(pm i).kd j/\(pm i).kd j < i
 nkl:∀i,i < np->(pm i).nk<=200
 nnl:∀i,i < np->(pm i).nn<=200
 szs:∀i,i < np->psum sz (pm i).kd (pm i).nk+1<=sz i
 szle:∀i,i < np->sz i<=3000
theorem psum_le {sz : Nat -> Nat}{kd : Nat -> Int}: ∀ {a b : Nat}, a <= b -> psum sz kd a <= psum sz kd b
  | a, 0, h => by obtain rfl : a = 0 := Zo
                  exact Nat.le_refl _
  | a, b + 1, h => by
    by_cases e : a = b + 1
    · rw [e]; exact Nat.le_refl _
    · have := psum_le (sz := sz) (kd := kd) (show a <= b by omega)
      simp only [psum]; omega
def ExprOk (w0:World) (wp:Nat) (tv:Value) (pd:Nat->PD) (FX:List SNm->Nat->CV->Prop) (sz:Nat->Nat) (i:Nat):Prop:=
 ∀(w:World) (own:Nat->Nat) (V:Nat->Value) (R:Nat->List (List Value)) (B:Nat) (lp:Nat->Int) (rs:Nat->Bool) (l:Nat) (s:St),Ws w0 w wp tv own V R B lp rs->(R 2).length=l+1->s.At R->SFn s l->B+4000*sz i<=16000000->l+i<=3000->(0<=lp l/\lp l+(i:Int)<=3000)->
  Calls Tryz.prog 64 #[.pointer (some ⟨wp,0,none⟩),.int .i64 i] w fun e w'=>∃r:Nat,r<=16777216/\e= .returned (.int .i64 r)/\PostS w0 wp tv own w R (B+4000*sz i) lp rs w' (fun s'=>Rel pd FX l (lp l) (rs l) i s s'/\s'.sc=s.sc)
end Go.Proofs.YtlibofjbhhdjdaaGreat
namespace Go.Proofs.YtlibofjbhhdjdaaGreat
open Go.RowKit
attribute [local go_sem] rsf
variable {FX:List SNm->Nat->CV->Prop} {B i l np wp:Nat} {rs:Nat->Bool} {lp:Nat->Int} {R:Nat->List (List Value)} {own sz:Nat->Nat} {V:Nat->Value} {s:St} {tv:Value} {w w0:World}
theorem exprs_ws {pd:Nat->PD}(h:Ws w0 w wp tv own V R B lp rs)(hl:(R 2).length=l+1)(hs:s.At R)(hf:SFn s l)(ka:Option Addr)(c kc:Nat)(kd:Nat->Int)(hkd:IntsAt w0 ka c kd)(hc:c<=200)(hlp0:0<=lp l)(hk0:∀q,q < c->0<=kd q/\l+(kd q).toNat<=3000/\lp l+kd q<=3000)(hB:B+4000*psum sz kd c<=16000000)(hex:∀q,q < c->ExprOk w0 wp tv pd FX sz (kd q).toNat):
  Calls Tryz.prog 59 #[.pointer (some ⟨wp,0,none⟩),.slice ka c kc] w fun e w'=>∃(oa:Option Addr) (oc:Nat),e= .returned (.slice oa c oc)/\∃own' V' R' s',Ws w0 w' wp tv own' V' R' (B+4000*psum sz kd c) lp rs/\Fr own own' w w'/\St.At s' R'/\(R' 2).length=(R 2).length/\Mono R R'/\SeqR pd FX l (lp l) (rs l) kd c s s'/\s'.sc=s.sc/\LRow w' w.heap.size own' oa c oc:=by
 have HH:Hid _:=h
 have HL:Hid _:=hl
 have HS:Hid _:=hs
 have HF:Hid _:=hf
 have HE:Hid _:=hex
 have HK:Hid _:=hk0
 have HD:Hid _:=hkd
 clear h hl hs hf hex hk0 hkd
 go_enter Tryz.func59,Tryz.ntmps59
 go_wp2_with fail
 go_loopw [5,11] (fun ov x wr=>∃(i:Nat) (own1:Nat->Nat) (V1:Nat->Value) (R1:Nat->List (List Value)) (s1:St) (oa:Option Addr) (oc:Nat) (ol:List (List Value)),i<=c/\x= .int .i64 i/\ov= .slice oa i oc/\Ws w0 wr wp tv own1 V1 R1 (B+4000*psum sz kd i) lp rs/\Fr own own1 w wr/\St.At s1 R1/\(R1 2).length=l+1/\Mono R R1/\SeqR pd FX l (lp l) (rs l) kd i s s1/\s1.sc=s.sc/\RowAt wr w.heap.size own1 0 3 1 (.slice oa i oc) ol/\ol.length=i/\∀y∈ol,∃q:Int,y= [.int .i64 q]) (fun _ x _=>c-(intOf x).toNat)
 case atStart=>exact ⟨0,own,V,R,s,none,0, [],Nat.zero_le _,rfl,rfl,HH.out,Fr.refl _ _,HS.out,HL.out,Mono.refl _,relC.snil,rfl,⟨World.ownsRow_nil _ _ _ _,fun x hx=>by simp at hx,fun g hg=>by simp[Value.ownBlock] at hg⟩,rfl,fun y hy=>by simp at hy⟩
 case round=>
  obtain ⟨i,own1,V1,R1,s1,oa,oc,ol,hi,rfl,rfl,h1,fr1,at1,l1,mo1,sq1,e1,ro,hol,hq⟩:=hrel
  have H1:Hid _:=h1
  have FR1:Hid _:=fr1
  have AT1:Hid _:=at1
  have L1:Hid _:=l1
  have MO1:Hid _:=mo1
  have SQ1:Hid _:=sq1
  have E1:Hid _:=e1
  have RO:Hid _:=ro
  have HOL:Hid _:=hol
  have HQ:Hid _:=hq
  have hov:=h1.wk.ov
  clear h1 fr1 at1 l1 mo1 sq1 e1 ro hol hq
  by_cases hlt:i < c
  ·obtain ⟨nb,no,hna,hcc⟩:=HD.out Zo
   obtain ⟨kn,hkn⟩:∃kn:Nat,kd i=kn:=⟨(kd i).toNat,by have:=(HK.out i hlt).1;omega⟩
   have x0:=con hov (hcc i hlt)
   rw[hkn] at x0
   have zx:=clt x0
   subst hna
   have HKN:Hid _:=hkn
   clear hcc hkn hov
   have i0:(0:Int)<=(i:Int):=Zo
   have i1:(i:Int) < (c:Int):=Zo
   have hps:Hid (psum sz kd (i+1)=psum sz kd i+sz kn):=by show _=_;rw[psum,HKN.out];rfl
   have hle:Hid (psum sz kd (i+1)<=psum sz kd c):=psum_le Zo
   go_wp2_with fail
   have hcall:=HE.out i hlt wr own1 V1 R1 _ lp rs l s1 H1.out L1.out AT1.out (SFn.of HF.out E1.out) (by rw[HKN.out];have:=hps.out;have:=hle.out;show _+4000*sz kn<=_;omega) (by have:=(HK.out i hlt).2.1;omega) ⟨hlp0,by have:=(HK.out i hlt).2.2;have:=(HK.out i hlt).1;omega⟩
   rw[HKN.out,show ((kn:Int)).toNat=kn from rfl] at hcall
   refine hcall.mono ?_
   rintro e w9 ⟨r,hr,rfl,own9,V9,R9,s9,h9,fr9,at9,l9,mo9,rel9,e9⟩
   have H9:Hid _:=h9
   have fre:Hid (Fr own own9 w w9):=FR1.out.trans fr9
   have roe:=RO.out.fr fr9
   have ROE:Hid _:=roe
   have hxo:=roe.row
   rw[HOL.out] at hxo
   have AT9:Hid _:=at9
   have L9:Hid ((R9 2).length=l+1):=l9.trans L1.out
   have MO9:Hid (Mono R R9):=Mono.trans MO1.out (L1.out.trans HL.out.symm) mo9
   have SQ9:Hid (SeqR pd FX l (lp l) (rs l) kd (i+1) s s9):=relC.ssnoc SQ1.out (by rw[HKN.out];exact rel9)
   have E9:Hid (s9.sc=s.sc):=e9.trans E1.out
   clear hcall h9 fr9 roe at9 l9 mo9 rel9 e9 x0 zx
   obtain ⟨i2,hi2,hy0,hy1,hy2⟩:=info_parts info_int
   have N:=Blk.new w9 3 #[.int .i64 r]
   have hszw:w.heap.size<=w9.heap.size:=fre.out.size
   go_wp2_with (first|(at_builtin;refine wpList_app _ rfl (.tmp 18) (.tmp 20) 64 rfl w.heap.size 3 i2 _ 1 8 Tryz.underlying64 hi2 hy0 hy1 hy2 rfl Zb (.slice oa i oc) i ol.flatten rfl (World.ownsRow.alloc hxo _) ⟨w9.heap.size,0,none⟩ 1 1 [.int .i64 r] rfl rfl (fun j u hj=>by rw[Go.WideShapes.add_plain,N.cell,Nat.zero_add];simpa using hj) J262 Zb Zm Zo Zj ?_;intro g10 cap10 w10 hown hgrow hwhere))
   go_roundw
   case rel=>
    have hrow:∀x,(Value.slice oa i oc).ownBlock=some x->own9 x=0/\w.heap.size<=x:=fun x hx=>⟨ROE.out.mine x hx,(ROE.out.row.lt x hx).1⟩
    have hlo':w0.heap.size<=w.heap.size:=HH.out.wk.ov.size
    have hgs:=hgrow.size
    simp only[World.size_alloc] at hgs
    refine ⟨i+1,own9,V9,R9,s9,some ⟨g10,0,none⟩,cap10,ol++ [[.int .i64 r]],by omega,by go_num,rfl,?_,?_,AT9.out,L9.out,MO9.out,SQ9.out,E9.out,?_,by rw[List.length_append,HOL.out];rfl,fun y hy=>(List.mem_append.1 hy).elim (HQ.out y) (fun h=>⟨_,List.mem_singleton.1 h⟩)⟩
    ·exact (H9.out.loc (Onw.alloc _ _) hgrow (fun x hx=>⟨(hrow x hx).1,by have:=(hrow x hx).2;omega⟩)).more (by have:=hps.out;omega)
    ·exact J114
    ·exact ROE.out.app HOL.out rfl H9.out.wk.high (Onw.alloc _ _) hown hwhere
   case measure=>simp[intOf];omega
  ·obtain rfl:i=c:=Zo
   go_wp2_with fail
   go_ret
   exact ⟨oa,oc,rfl,own1,V1,R1,s1,H1.out,FR1.out,AT1.out,L1.out.trans HL.out.symm,MO1.out,SQ1.out,E1.out,ol,RO.out,HOL.out,HQ.out⟩
def FixOk (w0:World) (wp:Nat) (tv:Value) (np:Nat) (FX:List SNm->Nat->CV->Prop):Prop:=
 ∀(w:World) (own:Nat->Nat) (V:Nat->Value) (R:Nat->List (List Value)) (B:Nat) (lp:Nat->Int) (rs:Nat->Bool) (s:St) (l:Nat) (i:Nat),Ws w0 w wp tv own V R B lp rs->s.At R->SFn s l->B<=16777216->i < np->
  Calls Tryz.prog 83 #[.pointer (some ⟨wp,0,none⟩),.int .i64 i] w fun e w'=>∃c:CV,e= .returned (.agg #[.int .i64 i,.int .i64 c.code,.int .i64 c.kind,.int .i64 c.num,.float .f64 c.flt,.string c.str,.int .i64 c.ref])/\FX s.sc i c/\Vok c.num c.str/\Onw w w'
theorem target_ws {pm:Nat->PM}(tr:Tr w0 tv np pm sz)(h:Ws w0 w wp tv own V R B lp rs)(hl:(R 2).length=l+1)(hs:s.At R)(hf:SFn s l)(hi:i < np)(hB:B+4000*sz i<=16000000)(hll:l+i<=3000)(hlo:0<=lp l/\lp l+(i:Int)<=3000)(hex:ExprOk w0 wp tv (pdOf pm) FX sz i):
  Calls Tryz.prog 63 #[.pointer (some ⟨wp,0,none⟩),.int .i64 i] w fun e w'=>∃r:Nat,r<=16777216/\e= .returned (.int .i64 r)/\PostS w0 wp tv own w R (B+4000*sz i) lp rs w' (fun s'=>((((pm i).kind=26/\s'=nameS l i (pm i).text true s))\/((pm i).kind≠26/\Rel (pdOf pm) FX l (lp l) (rs l) i s s'))/\s'.sc=s.sc):=by
 obtain ⟨pa,pc,htv,ha⟩:=tr.at_
 obtain ⟨pb,po,hpa,hpc⟩:=ha.1 Zo
 have t0:=con h.wk.ov (hpc i hi).c0
 have zp:=clt t0
 have b0:w.cell? ⟨wp,0,none⟩=some (.slice (some ⟨pb,po,none⟩) np pc):=Zi
 have zb:=h.blk.lt
 have i0:(0:Int)<=(i:Int):=Zo
 have i1:(i:Int) < (np:Int):=Zo
 have szi:1<=sz i:=by have:=tr.szs i hi;omega
 have HH:Hid _:=h
 have HL:Hid _:=hl
 have HS:Hid _:=hs
 have HF:Hid _:=hf
 have HE:Hid _:=hex
 have HT:Hid _:=tr
 have HA:Hid _:=ha
 have HTV:Hid _:=htv
 clear h hl hs hf hex tr ha hpc htv
 by_cases hk:(pm i).kind=26
 ·have HKK:Hid _:=hk
  have k1:((pm i).kind==26)=true:=by rw[beq_iff_eq];exact hk
  clear hk
  go_enter Tryz.func63,Tryz.ntmps63
  go_wp2_with fail
  refine (name_ws HH.out HL.out HS.out np pm pa pc HA.out HTV.out HT.out.npl i hi true Zo (fun x hx=>(HF.out x hx).1)).mono ?_
  rintro e w' ⟨r,hr,rfl,own',V',R',s',p1,p2,p3,p4,p5,p6⟩
  have P:Hid (PostS w0 wp tv own w R (B+4000*sz i) lp rs w' (fun s'=>((((pm i).kind=26/\s'=nameS l i (pm i).text true s))\/((pm i).kind≠26/\Rel (pdOf pm) FX l (lp l) (rs l) i s s'))/\s'.sc=s.sc)):=⟨own',V',R',s',p1.more Zo,p2,p3,p4,p5,Or.inl ⟨HKK.out,p6⟩,by rw[p6];exact nameS_sc _ _ _ _ _⟩
  clear p1 p2 p3 p4 p5 p6
  exact J71
 ·have HKK:Hid _:=hk
  have k1:((pm i).kind==26)=false:=by rw[beq_eq_false_iff_ne];exact hk
  clear hk
  go_enter Tryz.func63,Tryz.ntmps63
  go_wp2_with fail
  refine (HE.out w own V R B lp rs l s HH.out HL.out HS.out HF.out hB hll hlo).mono ?_
  rintro e w' ⟨r,hr,rfl,own',V',R',s',p1,p2,p3,p4,p5,p6,p7⟩
  have P:Hid (PostS w0 wp tv own w R (B+4000*sz i) lp rs w' (fun s'=>((((pm i).kind=26/\s'=nameS l i (pm i).text true s))\/((pm i).kind≠26/\Rel (pdOf pm) FX l (lp l) (rs l) i s s'))/\s'.sc=s.sc)):=⟨own',V',R',s',p1,p2,p3,p4,p5,Or.inr ⟨HKK.out,p6⟩,p7⟩
  clear p1 p2 p3 p4 p5 p6 p7
  exact J71
theorem test_ws (fx:FixOk w0 wp tv np FX)(h:Ws w0 w wp tv own V R B lp rs)(hs:s.At R)(hsf:SFn s l)(hi:i < np)(hB:B+1<=16777216):
  Calls Tryz.prog 65 #[.pointer (some ⟨wp,0,none⟩),.int .i64 i] w fun e w'=>e= .returned (.tuple #[])/\PostS w0 wp tv own w R (B+1) lp rs w' (fun s'=>∃c,FX s.sc i c/\s'=bif c.code==0 then s.note i 0 5 else s):=by
 have HH:Hid _:=h
 have HS:Hid _:=hs
 have HF:Hid _:=fx
 have HSF:Hid _:=hsf
 clear h hs fx hsf
 go_enter Tryz.func65,Tryz.ntmps65
 go_wp2_with fail
 refine (HF.out w own V R B lp rs s l i HH.out HS.out HSF.out Zo hi).mono ?_
 rintro e w1 ⟨c,rfl,hfx,_,o1⟩
 have O2:Hid (Onw w (w1.alloc (Obj.cells #[.int .i64 i,.int .i64 c.code,.int .i64 c.kind,.int .i64 c.num,.float .f64 c.flt,.string c.str,.int .i64 c.ref] 157))):=o1.trans (Onw.alloc _ _)
 have HFX:Hid _:=hfx
 have h2:=HH.out.onw O2.out
 have H2:Hid _:=h2
 have X:=Blk.new w1 157 #[.int .i64 i,.int .i64 c.code,.int .i64 c.kind,.int .i64 c.num,.float .f64 c.flt,.string c.str,.int .i64 c.ref]
 have x1:(w1.alloc (Obj.cells #[.int .i64 i,.int .i64 c.code,.int .i64 c.kind,.int .i64 c.num,.float .f64 c.flt,.string c.str,.int .i64 c.ref] 157)).cell? ⟨w1.heap.size,1,none⟩=some (.int .i64 c.code):=(Blk.cell X 1).trans rfl
 have zx:=Blk.lt X
 clear o1 hfx X
 have B0:=h2.blk
 have hx:(w1.alloc (Obj.cells #[.int .i64 i,.int .i64 c.code,.int .i64 c.kind,.int .i64 c.num,.float .f64 c.flt,.string c.str,.int .i64 c.ref] 157)).ownsRow w0.heap.size 93 3 (V 8) (R 8).length (R 8).flatten:=(h2.wk.rows 8 Zo Zo).row
 have hlen:=h2.lens 8 Zo Zo
 have hne:=h2.ne (j:=8) Zo Zo
 have hlo:=h2.wk.ov.size
 have b8:(w1.alloc (Obj.cells #[.int .i64 i,.int .i64 c.code,.int .i64 c.kind,.int .i64 c.num,.float .f64 c.flt,.string c.str,.int .i64 c.ref] 157)).cell? ⟨wp,8,none⟩=some (V 8):=by rw[B0.cell];rfl
 have bf:=B0.free
 have zb:=B0.lt
 clear h2
 cases hc:(c.code==0)
 ·go_wp2_with fail
  exact bodyPost_end (v:= .tuple #[]) (by simp[results,Tryz.results65,go_sem]) rfl ⟨rfl,own,V,R,s,H2.out.more Zo,Fr.onw O2.out,HS.out,rfl,Mono.refl _,c,HFX.out,by rw[hc];rfl⟩
 ·go_upto_if 10 with (fail)
  generalize w1.alloc (Obj.cells #[.int .i64 i,.int .i64 c.code,.int .i64 c.kind,.int .i64 c.num,.float .f64 c.flt,.string c.str,.int .i64 c.ref] 157)=w2 at*
  obtain ⟨i0,hi0,hz0,hz1,hz2⟩:=info_parts info_note
  have N:=Blk.new w2 93 #[.int .i64 i,.int .i64 0,.int .i64 5]
  go_wp2_with (first|(at_builtin;refine wpList_app _ rfl (.tmp 15) (.tmp 18) 49 rfl w0.heap.size 93 i0 _ 3 24 Tryz.underlying49 hi0 hz0 hz1 hz2 rfl Zb (V 8) (R 8).length (R 8).flatten rfl (hx.alloc _) ⟨w2.heap.size,0,none⟩ 1 1 [.int .i64 i,.int .i64 0,.int .i64 5] rfl rfl (fun j u hj=>by rw[Go.WideShapes.add_plain,N.cell,Nat.zero_add];simpa using hj) J262 Zb Zm Zo Zj ?_;intro g cap w' hown hgrow hwhere;have B2:=(hgrow.block wp Zj (fun e=>hne e.symm)).trans (B0.onw (Onw.alloc _ _));have bf2:=Blk.free B2;have b82:w'.cell? ⟨wp,8,none⟩=some (V 8):=by rw[Blk.cell B2];rfl))
  obtain ⟨p1,p2⟩:=H2.out.push (j:=8) Zo Zo Zo (x:= [.int .i64 i,.int .i64 0,.int .i64 5]) rfl (Onw.alloc _ _) hown hgrow hwhere
  exact bodyPost_end (v:= .tuple #[]) (by simp[results,Tryz.results65,go_sem]) rfl ⟨rfl,_,_,_,s.note i 0 5,p1,(Fr.onw O2.out).trans p2,HS.out.note _ _ _,rfl,Mono.refl _,c,HFX.out,by rw[hc];rfl⟩
end Go.Proofs.YtlibofjbhhdjdaaGreat
namespace Go.Proofs.YtlibofjbhhdjdaaGreat
open Go.RowKit
variable {B j m vc wp z:Nat} {rs:Nat->Bool} {lp:Nat->Int} {R:Nat->List (List Value)} {own:Nat->Nat} {V:Nat->Value} {va:Option Addr} {tv:Value} {w:World}
theorem flatten_take :∀{els:List (List Value)},(∀x∈els,x.length=z)->∀m,(els.take m).flatten=els.flatten.take (m*z)
 | [],_,m=>by simp
 |y::els,h,0=>by simp
 |y::els,h,m+1=>by
  have hy:y.length=z:=h y J269
  rw[List.take_succ_cons,List.flatten_cons,List.flatten_cons,flatten_take (fun x hx=>h x (by simp[hx])) m,show (m+1)*z=y.length+m*z from by rw[hy,Nat.succ_mul,Nat.add_comm],List.take_append]
  simp[List.take_of_length_le]
theorem ownBlock_cut (va:Option Addr)(n m vc:Nat):(Value.slice va m vc).ownBlock=(Value.slice va n vc).ownBlock:=by cases va <;> rfl
theorem RowAt.take {base:Nat}{id:Nat}{e:TypeId}{z n:Nat}{els:List (List Value)}(h:RowAt w base own id e z (.slice va n vc) els)(hm:m<=els.length):RowAt w base own id e z (.slice va m vc) (els.take m):=by
 have hlen:(els.take m).length=m:=by rw[List.length_take];omega
 refine ⟨?_,fun x hx=>h.len x (List.mem_of_mem_take hx),fun g hg=>h.mine g J286⟩
 rw[hlen,flatten_take h.len]
 have hfl:=h.row.1
 refine ⟨?_,?_⟩
 ·rw[List.length_take,hfl]
  exact Nat.min_eq_left (Nat.mul_le_mul_right _ hm)
 ·rcases h.row.2 with ⟨e1,e2⟩|⟨g,cap,cur,hv,hb,hg,hnc,hcm,hcs,htake⟩
  ·have:m=0:=Zo
   subst this
   cases e1
   exact .inl ⟨rfl,rfl⟩
  ·cases hv
   refine .inr ⟨g,vc,cur,rfl,hb,hg,by omega,hcm,hcs,?_⟩
   rw[<-htake,List.take_take,Nat.min_eq_left (Nat.mul_le_mul_right _ hm)]
theorem List.getElem?_take_lt' {α:Type}(l:List α){m i:Nat}(h:i < m):(l.take m)[i]?= l[i]?:= by
 rw[List.getElem?_take,if_pos h]
theorem Ws.cutR {w0 w:World}(h:Ws w0 w wp tv own V R B lp rs)(j1:1<=j)(j2:j<=11)(jn:j≠2){n vc m:Nat}(hv:V j= .slice va n vc)(hm:m<=(R j).length):
  Ws w0 (w.setCell ⟨wp,j,none⟩ (.slice va m vc)) wp tv own (setV V j (.slice va m vc)) (fun k=>if k=j then (R k).take m else R k) B lp rs/\Fr own own w (w.setCell ⟨wp,j,none⟩ (.slice va m vc)):=by
 have wlt:=h.wk.blk.lt
 have hfr:Fr own own w (w.setCell ⟨wp,j,none⟩ (.slice va m vc)):=⟨by simp only[World.size_setCell];exact Nat.le_refl _,fun _ _=>rfl,fun k hk=>ksc w wp j _ k (fun e=>by have:=h.wk.wpo;rw[<-e] at this;omega)⟩
 have KK:∀k,own k≠1->k < w.heap.size->(w.setCell ⟨wp,j,none⟩ (.slice va m vc)).heap[k]?= w.heap[k]?:= fun k hk _=>ksc w wp j _ k (fun e=>hk (by rw[e];exact h.wk.wpo))
 refine ⟨⟨⟨bset h.wk.ov h.wk.wpb _,h.wk.wpb,?_,h.wk.wpo,h.wk.low,fun k hk=>h.wk.high k J309,fun i i1 i2=>?_⟩,fun i i1 i2=>?_,fun k hk=>?_⟩,hfr⟩
 ·have B3:=h.wk.blk.set j (.slice va m vc)
  exact J129
 ·have hr:=h.wk.rows i i1 i2
  by_cases e:i=j
  ·subst e
   have e1:setV V i (.slice va m vc) i= .slice va m vc:=if_pos rfl
   simp only[if_true]
   rw[e1]
   rw[hv] at hr
   exact (hr.take hm).kept (p:=fun k=>own k=i+1/\k < w.heap.size) (fun k hk=>KK k Zo hk.2) (fun g hg=>⟨hr.mine g J286,(hr.row.lt g J286).2⟩) (fun _ _=>rfl)
  ·have e1:setV V j (.slice va m vc) i=V i:=if_neg e
   exact J130
 ·have:=h.lens i i1 i2
  by_cases e:i=j
  ·simp only[if_pos e];rw[List.length_take];omega
  ·simp only[if_neg e];exact this
 ·have e2:¬(2=j):=fun e=>jn e.symm
  simp only[if_neg e2] at hk ⊢
  obtain ⟨c,h1,h2⟩:=h.lvs k hk
  exact ⟨c,h1,h2.kept (p:=fun g=>g < w.heap.size/\(own g=100+3*k\/own g=101+3*k\/own g=102+3*k)) (fun g hg=>KK g Zo hg.1) (fun g hg ho=>⟨hg,ho⟩) (fun _ _=>rfl) (Nat.le_refl _)⟩
theorem St.At.cut {s:St}(h:s.At R)(m:Nat):(s.cut m).At (fun k=>if k=1 then (R k).take m else R k):=
 ⟨by show (R 1).take m=_;rw[h.r1,<-List.map_take];rfl,h.r4,h.r5,h.r6,h.r7,h.r8,h.r9,h.r10,h.r11⟩
theorem Ws.slice {w0 w:World}(h:Ws w0 w wp tv own V R B lp rs)(j1:1<=j)(j2:j<=11):(V j= .slice none 0 0/\(R j).length=0)\/∃g cap,V j= .slice (some ⟨g,0,none⟩) (R j).length cap/\(R j).length<=cap/\w0.heap.size<=g:=by
 rcases (h.wk.rows j j1 j2).row.2 with ⟨e1,e2⟩|⟨g,cap,cur,e1,hb,_,hnc,_⟩
 ·exact Or.inl ⟨e1,by omega⟩
 ·exact Or.inr ⟨g,cap,e1,hnc,hb⟩
end Go.Proofs.YtlibofjbhhdjdaaGreat
