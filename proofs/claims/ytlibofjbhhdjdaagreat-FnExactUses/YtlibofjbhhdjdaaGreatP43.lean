import Derived.Test.YtlibofjbhhdjdaaGreatQ
import Derived.Test.YtlibofjbhhdjdaaGreatP27
import Derived.Test.YtlibofjbhhdjdaaGreatP30
import Derived.Test.YtlibofjbhhdjdaaGreatP42
set_option linter.unusedSimpArgs false
set_option maxRecDepth 100000
set_option maxHeartbeats 16000000
namespace Go.Proofs.YtlibofjbhhdjdaaGreat
open Go.RowKit
variable {i l np:Nat} {kd:Nat->Int} {sz:Nat->Nat} {pd:Nat->PD} {pm:Nat->PM} {s:St}
def SNm.ent (x:SNm):Ent:=⟨x.name,x.part,x.place,x.fn,x.fixed⟩
def ents (sc:List SNm):List Ent:=sc.map SNm.ent
theorem ents_app (a b:List SNm):ents (a++b)=ents a++ents b:=List.map_append
theorem find_ents (name:ByteArray)(sc:List SNm):∀n,n<=sc.length->findE name (ents (sc.take n))=if 0<=findS (scF sc) name n then some (scF sc (findS (scF sc) name n).toNat).ent else none
 |0,_=>by simp[ents,findE,findS]
 |n+1,h=>by
  have e:sc.take (n+1)=sc.take n++ [scF sc n]:=by
   rw[List.take_add_one,List.getElem?_eq_getElem (show n < sc.length by omega)]
   simp[scF,show n < sc.length by omega]
  rw[e,ents_app]
  show findE name (ents (sc.take n)++ [(scF sc n).ent])=_
  rw[findE_snoc,findS]
  cases hc:((scF sc n).name.toList==name.toList)
  ·have hc':((scF sc n).ent.name.toList==name.toList)=false:=hc
   rw[hc']
   simp only[cond_false]
   rw[find_ents name sc n Zo]
  ·have hc':((scF sc n).ent.name.toList==name.toList)=true:=hc
   rw[hc']
   simp
theorem use_name (l i:Nat)(t:ByteArray)(write:Bool)(s:St):(nameS l i t write s).uses=s.uses++ [useOf (ents s.sc) l i t]:=by
 have h1:(nameA l t write s).uses=s.uses:=by
  unfold nameA
  split
  ·unfold nameX
   have cl:∀(q:St) (a b:Int),(q.close a b).uses=q.uses:=fun q a b=>by unfold St.close;cases closedB (clF q.closed) a b 0 q.closed.length <;> rfl
   cases (scF s.sc (findS (scF s.sc) t s.sc.length).toNat).fixed
   ·cases (scF s.sc (findS (scF s.sc) t s.sc.length).toNat).fn==(l:Int)
    ·simp only[cond_false];rw[cl];cases write <;> rfl
    ·cases write <;> rfl
   ·cases write <;> rfl
  ·rfl
 have h2:∀(k:Int) (q:St),(nameF i write k q).uses=q.uses:=fun k q=>by
  unfold nameF
  cases k==0
  ·cases (write&&(k==3||k==4)) <;> rfl
  ·rfl
 have h3:useOf (ents s.sc) l i t= [.int .i64 i,.int .i64 (useK s l t).1,.int .i64 (useK s l t).2.1,.int .i64 (useK s l t).2.2]:=by
  unfold useOf useK
  have e:=find_ents t s.sc s.sc.length (Nat.le_refl _)
  rw[List.take_length] at e
  rw[e]
  by_cases hp:0<=findS (scF s.sc) t s.sc.length
  ·rw[if_pos hp,if_pos hp];rfl
  ·rw[if_neg hp,if_neg hp]
   cases builtinB t 15 <;> rfl
 unfold nameS
 rw[h2,h3]
 show (nameA l t write s).uses++_=_
 rw[h1]
theorem ents_declare (s:St)(i:Nat)(nm:Nat->ByteArray)(l:Nat)(vs:Nat->Int):∀c,ents (s.declare i nm l vs c).sc=ents s.sc++declE i nm l false c/\(s.declare i nm l vs c).uses=s.uses
 |0=>by simp[St.declare,declE]
 |c+1=>by
  have ih:=ents_declare s i nm l vs c
  have e:(s.declare i nm l vs (c+1)).sc=(s.declare i nm l vs c).sc++ [varN (nm c) i c l (vs c)]/\(s.declare i nm l vs (c+1)).uses=(s.declare i nm l vs c).uses:=by
   simp only[St.declare,St.name,St.decl]
   cases shadowB (scF (s.declare i nm l vs c).sc) (s.declare i nm l vs c).sc.length (l+1) i (nm c) <;> exact ⟨rfl,rfl⟩
  rw[e.1,e.2,ents_app,ih.1,ih.2]
  exact ⟨by simp only[declE,List.append_assoc];rfl,rfl⟩
def Got (pd:Nat->PD) (l i:Nat) (s s':St):Prop:=s'.uses=s.uses++(wE pd l i (ents s.sc)).1/\ents s'.sc=(wE pd l i (ents s.sc)).2/\∃t,s'.sc=s.sc++t
def GotN (pd:Nat->PD) (l:Nat) (kd:Nat->Int) (c:Nat) (s s':St):Prop:=s'.uses=s.uses++(seqE (wE pd l) kd 0 c (ents s.sc)).1/\ents s'.sc=(seqE (wE pd l) kd 0 c (ents s.sc)).2/\∃t,s'.sc=s.sc++t
theorem GotN.nil :GotN pd l kd 0 s s:=⟨by simp[seqE],rfl, [],by simp⟩
theorem GotN.snoc {c:Nat}{s s1 s2:St}(h:GotN pd l kd c s s1)(k:Got pd l (kd c).toNat s1 s2):GotN pd l kd (c+1) s s2:=by
 obtain ⟨h1,h2,t,h3⟩:=h
 obtain ⟨k1,k2,u,k3⟩:=k
 refine ⟨?_,?_,t++u,by rw[k3,h3,List.append_assoc]⟩
 ·rw[k1,h1,h2,List.append_assoc];simp only[seqE,Nat.zero_add]
 ·rw[k2,h2];simp only[seqE,Nat.zero_add]
theorem constS_sc (i:Nat)(name:ByteArray)(l:Nat)(c:CV)(s1:St):(constS i name l c s1).sc=s1.sc++ [constN i name l (cvOf c)]/\(constS i name l c s1).uses=s1.uses:=by
 have h1:(bif cvOk c then s1 else s1.fault 6 i).sc=s1.sc/\(bif cvOk c then s1 else s1.fault 6 i).uses=s1.uses:=by cases cvOk c <;> exact ⟨rfl,rfl⟩
 have h2:(St.shade (bif cvOk c then s1 else s1.fault 6 i) l i 0 name).sc=s1.sc/\(St.shade (bif cvOk c then s1 else s1.fault 6 i) l i 0 name).uses=s1.uses:=by
  exact J155
 exact ⟨by show (St.shade _ _ _ _ _).sc++_=_;rw[h2.1],h2.2⟩
theorem cut_sc {s s':St}{t:List SNm}(h:s'.sc=s.sc++t):(s'.cut s.sc.length).sc=s.sc:=by
 show s'.sc.take _=_
 rw[h];simp
theorem rel_got {FX:List SNm->Nat->CV->Prop}(hk:∀i,i < np->∀j,j < (pm i).nk->0<=(pm i).kd j/\(pm i).kd j < i)(sh:∀i,i < np->ShapeAt pm i):
  ∀i,i < np->∀l lo re s s',Rel (pdOf pm) FX l lo re i s s'->Got (pdOf pm) l i s s':=by
 have h0:∀i,i < np->0 < (pdOf pm i).nk\/((pdOf pm i).kind≠9/\(pdOf pm i).kind≠10/\(pdOf pm i).kind≠14/\(pdOf pm i).kind≠36):=fun i hi=>by
  exact J86
 have E:=fun {i:Nat} (hi:i < np) (l:Nat) (sc:List Ent)=>wE_eq (pd:=pdOf pm) hk h0 hi l sc
 -- a part that declares nothing behind itself
 have same:∀i,i < np->(pm i).kind≠2->(pm i).kind≠3->(pm i).kind≠4->∀l sc,(wE (pdOf pm) l i sc).2=sc:=by
  intro i hi a b c l sc
  rw[E hi]
  have K:(pdOf pm i).kind=(pm i).kind:=rfl
  unfold partE
  rw[K]
  by_cases e:(pm i).kind=26
  ·rw[if_pos e]
  rw[if_neg e,if_neg a,if_neg b,if_neg c]
  by_cases e1:(pm i).kind=9\/(pm i).kind=10\/(pm i).kind=14
  ·rw[if_pos e1]
  rw[if_neg e1]
  by_cases e2:(pm i).kind=36
  ·rw[if_pos e2]
  rw[if_neg e2]
 have seqSame:∀(l:Nat) (kd:Nat->Int) (c:Nat) (sc:List Ent),(∀q,q < c->(kd q).toNat < np/\(pm (kd q).toNat).kind≠2/\(pm (kd q).toNat).kind≠3/\(pm (kd q).toNat).kind≠4)->(seqE (wE (pdOf pm) l) kd 0 c sc).2=sc:=by
  intro l kd c
  induction c with
  |zero=>intro sc _;rfl
  |succ c ih=>
   intro sc h
   simp only[seqE,Nat.zero_add]
   obtain ⟨a,b,d,e⟩:=h c Zo
   rw[same _ a b d e,ih sc (fun q hq=>h q Zo)]
 have lt:∀{i:Nat},i < np->∀q,q < (pm i).nk->((pm i).kd q).toNat < np:=fun {i} hi q hq=>by have:=hk i hi q hq;omega
 have notD:∀{i:Nat},i < np->∀q,q < (pm i).nk->isE (kk pm i q)\/kk pm i q=1\/kk pm i q=7\/(40<=kk pm i q/\kk pm i q<=42)->((pm i).kd q).toNat < np/\(pm ((pm i).kd q).toNat).kind≠2/\(pm ((pm i).kd q).toNat).kind≠3/\(pm ((pm i).kd q).toNat).kind≠4:=fun {i} hi q hq h=>by
  have:=lt hi q hq
  unfold isE kk at h
  omega
 -- the kids one after the other, none of which declares anything
 have plain:∀{i:Nat},i < np->∀{l:Nat} {s s':St},GotN (pdOf pm) l (pm i).kd (pm i).nk s s'->(∀q,q < (pm i).nk->isE (kk pm i q)\/kk pm i q=1\/kk pm i q=7\/(40<=kk pm i q/\kk pm i q<=42))->(pm i).kind≠26->(pm i).kind≠2->(pm i).kind≠3->(pm i).kind≠4->(pm i).kind≠9->(pm i).kind≠10->(pm i).kind≠14->(pm i).kind≠36->Got (pdOf pm) l i s s':=by
  intro i hi l s s' g hq a1 a2 a3 a4 a5 a6 a7 a8
  have e:wE (pdOf pm) l i (ents s.sc)=((seqE (wE (pdOf pm) l) (pm i).kd 0 (pm i).nk (ents s.sc)).1,ents s.sc):=by
   rw[E hi]
   unfold partE
   rw[show (pdOf pm i).kind=(pm i).kind from rfl,if_neg a1,if_neg a2,if_neg a3,if_neg a4,if_neg Zo,if_neg a8]
   rfl
  obtain ⟨g1,g2,g3⟩:=g
  unfold Got
  rw[e]
  refine ⟨g1,?_,g3⟩
  rw[g2,seqSame l (pm i).kd (pm i).nk _ (fun q hq'=>notD hi q hq' (hq q hq'))]
 have C:RelC (pdOf pm) FX (fun l _ _ i s s'=>i < np->Got (pdOf pm) l i s s') (fun l _ _ kd c s s'=>(∀q,q < c->(kd q).toNat < np)->GotN (pdOf pm) l kd c s s') (fun l _ _ kd c s s'=>(∀q,q < c->(kd q).toNat < np)->GotN (pdOf pm) l kd c s s') (fun l _ _ _ kd c s s'=>(∀q,q < c->(kd q).toNat < np)->GotN (pdOf pm) l kd c s s'):=by
  constructor
  case name=>
   intro l _ _ i s h hi
   have K:(pdOf pm i).kind=(pm i).kind:=rfl
   have h':(pm i).kind=26:=h
   refine ⟨?_,?_, [],by rw[nameS_sc];simp⟩
   ·rw[use_name,E hi];unfold partE;rw[K,if_pos h']
   ·rw[nameS_sc,E hi];unfold partE;rw[K,if_pos h']
  case rest=>
   intro l _ re i s h hi
   have S:=sh i hi
   have h':(pm i).kind=27:=h
   have n0:=S.leaf Zo
   have g:GotN (pdOf pm) l (pm i).kd (pm i).nk s (bif re then s else s.fault 5 i):=by
    rw[n0]
    cases re
    ·exact ⟨by simp[seqE,St.fault],rfl, [],by simp[St.fault]⟩
    ·exact GotN.nil
   exact plain hi g (fun q hq=>by omega) Zo Zo Zo Zo Zo Zo Zo Zo
  case brk=>
   intro l lo _ i s h hi
   have S:=sh i hi
   have h':(pm i).kind=11\/(pm i).kind=12:=h
   have n0:=S.leaf Zo
   have g:GotN (pdOf pm) l (pm i).kd (pm i).nk s (bif lo==0 then s.fault 4 i else s):=by
    rw[n0]
    cases lo==0
    ·exact GotN.nil
    ·exact ⟨by simp[seqE,St.fault],rfl, [],by simp[St.fault]⟩
   exact plain hi g (fun q hq=>by omega) Zo Zo Zo Zo Zo Zo Zo Zo
  case fn=>
   intro l _ _ i s s1 vs h a hi
   have S:=sh i hi
   have K:(pdOf pm i).kind=(pm i).kind:=rfl
   have h':(pm i).kind=36:=h
   obtain ⟨n1,_⟩:=S.fn h'
   obtain ⟨g1,g2,t,g3⟩:=a (lt hi 0 Zo)
   obtain ⟨d1,d2⟩:=ents_declare s i (pm i).nm (l+1) vs (pm i).nn
   obtain ⟨t',d3,_⟩:=Adds.declare s i (pm i).nm (l+1) vs (pm i).nn
   have c:=cut_sc (s:=s) (s':=s1) (t:=t'++t) (by rw[g3];show (s.declare i (pm i).nm (l+1) vs (pm i).nn).sc++t=_;rw[d3,List.append_assoc])
   have e:wE (pdOf pm) l i (ents s.sc)=((wE (pdOf pm) (l+1) ((pm i).kd 0).toNat (ents s.sc++declE i (pm i).nm (l+1) false (pm i).nn)).1,ents s.sc):=by
    rw[E hi]
    unfold partE
    rw[K,if_neg Zo,if_neg Zo,if_neg Zo,if_neg Zo,if_neg Zo,if_pos h']
    show (_++_,_)=_
    exact J216
   unfold Got
   rw[e]
   refine ⟨?_,by rw[c], [],by rw[c];simp⟩
   show s1.uses=_
   rw[g1]
   show (s.declare i (pm i).nm (l+1) vs (pm i).nn).uses++(wE (pdOf pm) (l+1) ((pm i).kd 0).toNat (ents (s.declare i (pm i).nm (l+1) vs (pm i).nn).sc)).1=_
   rw[d1,d2]
  case let_=>
   intro l _ _ i s s1 vs h a hi
   have S:=sh i hi
   have K:(pdOf pm i).kind=(pm i).kind:=rfl
   have h':(pm i).kind=2:=h
   obtain ⟨g1,g2,t,g3⟩:=a (lt hi)
   have e2:=seqSame l (pm i).kd (pm i).nk (ents s.sc) (fun q hq=>notD hi q hq (Or.inl (S.exprs Zo q hq)))
   obtain ⟨d1,d2⟩:=ents_declare s1 i (pm i).nm l vs (pm i).nn
   obtain ⟨t',d3,_⟩:=Adds.declare s1 i (pm i).nm l vs (pm i).nn
   have e:wE (pdOf pm) l i (ents s.sc)=((seqE (wE (pdOf pm) l) (pm i).kd 0 (pm i).nk (ents s.sc)).1,ents s.sc++declE i (pm i).nm l false (pm i).nn):=by
    rw[E hi]
    unfold partE
    rw[K,if_neg Zo,if_pos h']
    rfl
   unfold Got
   rw[e]
   refine ⟨?_,?_,t++t',?_⟩
   ·show (s1.declare i (pm i).nm l vs (pm i).nn).uses=_
    rw[d2];exact g1
   ·show ents (s1.declare i (pm i).nm l vs (pm i).nn).sc=_
    rw[d1,g2];show (seqE (wE (pdOf pm) l) (pm i).kd 0 (pm i).nk (ents s.sc)).2++_=_;rw[e2]
   ·show (s1.declare i (pm i).nm l vs (pm i).nn).sc=_
    rw[d3,g3,List.append_assoc]
  case const=>
   intro l _ _ i s s1 c h _ a hi
   have S:=sh i hi
   have K:(pdOf pm i).kind=(pm i).kind:=rfl
   have h':(pm i).kind=3:=h
   obtain ⟨n1,n2,n3⟩:=S.const h'
   obtain ⟨g1,g2,t,g3⟩:=a (lt hi 0 Zo)
   have e2:=same _ (notD hi 0 Zo (Or.inl n3)).1 (notD hi 0 Zo (Or.inl n3)).2.1 (notD hi 0 Zo (Or.inl n3)).2.2.1 (notD hi 0 Zo (Or.inl n3)).2.2.2 l (ents s.sc)
   have e:wE (pdOf pm) l i (ents s.sc)=((wE (pdOf pm) l ((pm i).kd 0).toNat (ents s.sc)).1,ents s.sc++ [⟨(pm i).nm 0,i,0,l,true⟩]):=by
    rw[E hi]
    unfold partE
    rw[K,if_neg Zo,if_neg Zo,if_pos h']
    rw[show (pdOf pm i).nk=1 from n1,show (pdOf pm i).nn=1 from n2]
    rfl
   obtain ⟨c1,c2⟩:=constS_sc i ((pm i).nm 0) l c s1
   unfold Got
   rw[e]
   refine ⟨?_,?_,t++ [constN i ((pm i).nm 0) l (cvOf c)],?_⟩
   ·show (constS i ((pm i).nm 0) l c s1).uses=_
    rw[c2];exact g1
   ·show ents (constS i ((pm i).nm 0) l c s1).sc=_
    rw[c1,ents_app,g2]
    show (wE (pdOf pm) l ((pm i).kd 0).toNat (ents s.sc)).2++_=_
    rw[e2];rfl
   ·show (constS i ((pm i).nm 0) l c s1).sc=_
    rw[c1,g3,List.append_assoc]
  case sfn=>
   intro l _ _ i s s1 vs h a hi
   have S:=sh i hi
   have K:(pdOf pm i).kind=(pm i).kind:=rfl
   have h':(pm i).kind=4:=h
   obtain ⟨n1,n2,n3⟩:=S.sfn h'
   obtain ⟨g1,g2,t,g3⟩:=a (lt hi 0 Zo)
   have nd:=notD hi 0 Zo (Or.inl (by unfold isE;omega))
   have e2:=same _ nd.1 nd.2.1 nd.2.2.1 nd.2.2.2 l
   obtain ⟨d1,d2⟩:=ents_declare s i (pm i).nm l vs (pm i).nn
   obtain ⟨t',d3,_⟩:=Adds.declare s i (pm i).nm l vs (pm i).nn
   have e:wE (pdOf pm) l i (ents s.sc)=((wE (pdOf pm) l ((pm i).kd 0).toNat (ents s.sc++declE i (pm i).nm l false (pm i).nn)).1,ents s.sc++declE i (pm i).nm l false (pm i).nn):=by
    rw[E hi]
    unfold partE
    rw[K,if_neg Zo,if_neg Zo,if_neg Zo,if_pos h']
    exact J216
   unfold Got
   rw[e]
   refine ⟨?_,?_,t'++t,?_⟩
   ·rw[g1]
    show (s.declare i (pm i).nm l vs (pm i).nn).uses++(wE (pdOf pm) l ((pm i).kd 0).toNat (ents (s.declare i (pm i).nm l vs (pm i).nn).sc)).1=_
    rw[d1,d2]
   ·rw[g2]
    show (wE (pdOf pm) l ((pm i).kd 0).toNat (ents (s.declare i (pm i).nm l vs (pm i).nn).sc)).2=_
    rw[e2,d1]
   ·rw[g3]
    show (s.declare i (pm i).nm l vs (pm i).nn).sc++t=_
    rw[d3,List.append_assoc]
  case set=>
   intro l _ _ i s s1 h a hi
   have S:=sh i hi
   have h':(pm i).kind=5:=h
   have g:=a (lt hi)
   exact plain hi g (fun q hq=>Or.inl (S.exprs Zo q hq)) Zo Zo Zo Zo Zo Zo Zo Zo
  case if_=>
   intro l _ _ i s s1 c h _ a hi
   have S:=sh i hi
   have h':(pm i).kind=7:=h
   have g:=a (lt hi)
   have g':GotN (pdOf pm) l (pm i).kd (pm i).nk s s1:=by
    revert g
    cases c.code==0 <;> exact id
   refine plain hi g' (fun q hq=>?_) Zo Zo Zo Zo Zo Zo Zo Zo
   obtain ⟨n1,n2,n3⟩:=S.if_ h'
   exact J93
  case while_=>
   intro l _ _ i s s1 s2 h a b hi
   have S:=sh i hi
   have h':(pm i).kind=8:=h
   obtain ⟨n1,n2,n3⟩:=S.while_ h'
   have g:GotN (pdOf pm) l (pm i).kd 2 s s2:=(GotN.nil.snoc (a (lt hi 0 Zo))).snoc (b (lt hi 1 Zo))
   rw[<-n1] at g
   refine plain hi g (fun q hq=>?_) Zo Zo Zo Zo Zo Zo Zo Zo
   exact J119
  case for_=>
   intro l _ _ i s s1 s2 vs h a b hi
   have S:=sh i hi
   have K:(pdOf pm i).kind=(pm i).kind:=rfl
   have h':(pm i).kind=9\/(pm i).kind=10:=h
   have nk1:0 < (pm i).nk:=by
    rcases h' with h'|h'
    ·have:=S.for_ h';omega
    ·have:=S.each h';omega
   have kE:∀q,q < (pm i).nk-1->isE (kk pm i q):=fun q hq=>by
    rcases h' with h'|h'
    ·rcases S.for_ h' with ⟨n1,n2,_⟩|⟨n1,n2,_⟩
     ·exact n2 q Zo
     ·exact n2 q Zo
    ·obtain ⟨n1,n2,_⟩:=S.each h'
     obtain rfl:q=0:=Zo
     exact n2
   obtain ⟨g1,g2,t,g3⟩:=a (fun q (hq:q < (pm i).nk-1)=>lt hi q Zo)
   have e2:=seqSame l (pm i).kd ((pm i).nk-1) (ents s.sc) (fun q hq=>notD hi q Zo (Or.inl (kE q hq)))
   obtain ⟨k1,k2,u,k3⟩:=b (lt hi ((pm i).nk-1) Zo)
   obtain ⟨d1,d2⟩:=ents_declare s1 i (pm i).nm l vs (pm i).nn
   obtain ⟨t',d3,_⟩:=Adds.declare s1 i (pm i).nm l vs (pm i).nn
   have c:=cut_sc (s:=s) (s':=s2) (t:=t++(t'++u)) (by rw[k3];show (s1.declare i (pm i).nm l vs (pm i).nn).sc++u=_;rw[d3,g3,List.append_assoc,List.append_assoc])
   have e:wE (pdOf pm) l i (ents s.sc)=((seqE (wE (pdOf pm) l) (pm i).kd 0 ((pm i).nk-1) (ents s.sc)).1++(wE (pdOf pm) l ((pm i).kd ((pm i).nk-1)).toNat (ents s.sc++declE i (pm i).nm l false (pm i).nn)).1,ents s.sc):=by
    rw[E hi]
    unfold partE
    rw[K,if_neg Zo,if_neg Zo,if_neg Zo,if_neg Zo,if_pos Zo]
    rfl
   unfold Got
   rw[e]
   refine ⟨?_,by rw[c], [],by rw[c];simp⟩
   show s2.uses=_
   rw[k1]
   show (s1.declare i (pm i).nm l vs (pm i).nn).uses++(wE (pdOf pm) l ((pm i).kd ((pm i).nk-1)).toNat (ents (s1.declare i (pm i).nm l vs (pm i).nn).sc)).1=_
   have g2':ents s1.sc=ents s.sc:=g2.trans e2
   have g1':s1.uses=s.uses++(seqE (wE (pdOf pm) l) (pm i).kd 0 ((pm i).nk-1) (ents s.sc)).1:=g1
   rw[d1,d2,g2',g1',List.append_assoc]
  case try_=>
   intro l _ _ i s s1 s2 vs h a b hi
   have S:=sh i hi
   have K:(pdOf pm i).kind=(pm i).kind:=rfl
   have h':(pm i).kind=14:=h
   obtain ⟨n1,n2,n3,n4⟩:=S.try_ h'
   obtain ⟨g1,g2,t,g3⟩:=a (lt hi 0 Zo)
   have nd:=notD hi 0 Zo (Or.inr (Or.inl n3))
   have e2:=same _ nd.1 nd.2.1 nd.2.2.1 nd.2.2.2 l (ents s.sc)
   obtain ⟨k1,k2,u,k3⟩:=b (lt hi 1 Zo)
   obtain ⟨d1,d2⟩:=ents_declare s1 i (pm i).nm l vs (pm i).nn
   obtain ⟨t',d3,_⟩:=Adds.declare s1 i (pm i).nm l vs (pm i).nn
   have c:=cut_sc (s:=s) (s':=s2) (t:=t++(t'++u)) (by rw[k3];show (s1.declare i (pm i).nm l vs (pm i).nn).sc++u=_;rw[d3,g3,List.append_assoc,List.append_assoc])
   have e:wE (pdOf pm) l i (ents s.sc)=((wE (pdOf pm) l ((pm i).kd 0).toNat (ents s.sc)).1++(wE (pdOf pm) l ((pm i).kd 1).toNat (ents s.sc++declE i (pm i).nm l false (pm i).nn)).1,ents s.sc):=by
    rw[E hi]
    unfold partE
    rw[K,if_neg Zo,if_neg Zo,if_neg Zo,if_neg Zo,if_pos Zo]
    rw[show (pdOf pm i).nk=2 from n1]
    rfl
   unfold Got
   rw[e]
   refine ⟨?_,by rw[c], [],by rw[c];simp⟩
   show s2.uses=_
   rw[k1]
   show (s1.declare i (pm i).nm l vs (pm i).nn).uses++(wE (pdOf pm) l ((pm i).kd 1).toNat (ents (s1.declare i (pm i).nm l vs (pm i).nn).sc)).1=_
   have g2':ents s1.sc=ents s.sc:=g2.trans e2
   have g1':s1.uses=s.uses++(wE (pdOf pm) l ((pm i).kd 0).toNat (ents s.sc)).1:=g1
   rw[d1,d2,g2',g1',List.append_assoc]
  case block=>
   intro l _ _ i s s1 h a hi
   have K:(pdOf pm i).kind=(pm i).kind:=rfl
   have h':(pm i).kind=1:=h
   obtain ⟨g1,g2,t,g3⟩:=a (lt hi)
   have c:=cut_sc g3
   have e:wE (pdOf pm) l i (ents s.sc)=((seqE (wE (pdOf pm) l) (pm i).kd 0 (pm i).nk (ents s.sc)).1,ents s.sc):=by
    rw[E hi]
    unfold partE
    rw[K,if_neg Zo,if_neg Zo,if_neg Zo,if_neg Zo,if_neg Zo,if_neg Zo]
    rfl
   unfold Got
   rw[e]
   exact ⟨g1,by rw[c], [],by rw[c];simp⟩
  case plain=>
   intro l _ _ i s s1 h a hi
   have S:=sh i hi
   have h':plainB (pm i).kind=true:=h
   have g:=a (lt hi)
   unfold plainB at h'
   simp only[Bool.not_eq_true',Bool.or_eq_false_iff,beq_eq_false_iff_ne,ne_eq] at h'
   have kn:=S.known
   unfold isS isE at kn
   refine plain hi g (fun q hq=>?_) Zo Zo Zo Zo Zo Zo Zo Zo
   by_cases c1:20<=(pm i).kind/\(pm i).kind<=25
   ·have:=S.lit c1;omega
   by_cases c2:40<=(pm i).kind
   ·exact Or.inl (S.entry Zo q hq)
   by_cases c3:(pm i).kind=33
   ·obtain ⟨n1,n2⟩:=S.field c3
    exact J213
   by_cases c4:(pm i).kind=35
   ·have:=(S.table c4 q hq).1
    exact J202
   exact Or.inl (S.exprs Zo q hq)
  case snil=>
   intros
   exact GotN.nil
  case bnil=>
   intros
   exact GotN.nil
  case tnil=>
   intros
   exact GotN.nil
  case ssnoc=>
   intro l _ _ kd c s s1 s2 a b h
   exact (a fun q hq=>h q Zo).snoc (b (h c Zo))
  case bfirst=>
   intro l _ _ kd s s1 s2 a b h
   exact (a fun q hq=>h q Zo).snoc (b (h 0 Zo))
  case bsnoc=>
   intro l _ _ kd c s s1 s2 a b h
   refine (a fun q hq=>h q Zo).snoc ?_
   have g:=b (h (c+1) Zo)
   revert g
   cases deadB (pdOf pm (kd c).toNat).kind <;> exact id
  case tname=>
   intro l _ _ n kd c s s1 a _ h26 h
   have e:∀sc,wE (pdOf pm) l (kd c).toNat sc=([useOf sc l (kd c).toNat (pdOf pm (kd c).toNat).text],sc):=fun sc=>by
    rw[E (h c Zo)]
    unfold partE
    rw[if_pos h26]
   refine (a fun q hq=>h q Zo).snoc ⟨?_,?_, [],?_⟩
   ·rw[e,use_name]
   ·rw[e,nameS_sc]
   ·rw[nameS_sc];simp
  case texpr=>
   intro l _ _ n kd c s s1 s2 a _ b h
   exact (a fun q hq=>h q Zo).snoc (b (h c Zo))
 exact fun i hi l lo re s s' h=>h _ _ _ _ C hi
theorem wE_at (hk:∀i,i < np->∀j,j < (pm i).nk->0<=(pm i).kd j/\(pm i).kd j < i)(sh:∀i,i < np->ShapeAt pm i)(hi:i < np)(l:Nat)(sc:List Ent):wE (pdOf pm) l i sc=partE (pdOf pm i) i l (fun l k sc=>wE (pdOf pm) l k sc) sc:=by
 refine wE_eq (np:=np) hk (fun i hi=>?_) hi l sc
 exact J86
theorem seq_len {g:Nat->List Ent->Out}:∀{c:Nat},(∀q,q < c->∀sc,(g (kd q).toNat sc).1.length<=sz (kd q).toNat)->∀sc,(seqE g kd 0 c sc).1.length<=psum sz kd c
 |0,_,_=>Nat.le_refl _
 |c+1,h,sc=>by
  simp only[seqE,psum,List.length_append,Nat.zero_add]
  have:=seq_len (c:=c) (fun q hq=>h q Zo) sc
  have:=h c Zo (seqE g kd 0 c sc).2
  omega
theorem wE_len (hk:∀i,i < np->∀j,j < (pm i).nk->0<=(pm i).kd j/\(pm i).kd j < i)(sh:∀i,i < np->ShapeAt pm i)(hz:∀i,i < np->psum sz (pm i).kd (pm i).nk+1<=sz i):∀i,i < np->∀l sc,(wE (pdOf pm) l i sc).1.length<=sz i:=by
 intro i
 induction i using Nat.strongRecOn with
 |ind i ih=>
  intro hi l sc
  rw[wE_at hk sh hi]
  have K:(pdOf pm i).kind=(pm i).kind:=rfl
  have Z:=hz i hi
  have lt:∀q,q < (pm i).nk->((pm i).kd q).toNat < i:=fun q hq=>by have:=hk i hi q hq;omega
  have sq:∀l c,c<=(pm i).nk->∀sc,(seqE (wE (pdOf pm) l) (pm i).kd 0 c sc).1.length<=psum sz (pm i).kd c:=fun l c hc sc=>seq_len (fun q hq sc=>ih _ (lt q Zo) (by have:=lt q (by omega);omega) l sc) sc
  have all:∀l sc,(seqE (wE (pdOf pm) l) (pm i).kd 0 (pm i).nk sc).1.length<=sz i:=fun l sc=>by have:=sq l (pm i).nk (Nat.le_refl _) sc;omega
  have lst:0 < (pm i).nk->∀l sc sc',(seqE (wE (pdOf pm) l) (pm i).kd 0 ((pm i).nk-1) sc).1.length+(wE (pdOf pm) l ((pm i).kd ((pm i).nk-1)).toNat sc').1.length<=sz i:=fun h0 l sc sc'=>by
   have a:=sq l ((pm i).nk-1) Zo sc
   have b:=ih _ (lt ((pm i).nk-1) Zo) (by have:=lt ((pm i).nk-1) (by omega);omega) l sc'
   obtain ⟨m,hm⟩:∃m,(pm i).nk=m+1:=⟨(pm i).nk-1,by omega⟩
   rw[hm] at Z a b ⊢
   simp only[Nat.add_sub_cancel] at a b ⊢
   simp only[psum] at Z
   omega
  have S:=sh i hi
  unfold partE
  rw[K]
  by_cases e1:(pm i).kind=26
  ·rw[if_pos e1];show 1<=sz i;omega
  rw[if_neg e1]
  by_cases e2:(pm i).kind=2
  ·rw[if_pos e2];exact all l sc
  rw[if_neg e2]
  by_cases e3:(pm i).kind=3
  ·rw[if_pos e3];exact all l sc
  rw[if_neg e3]
  by_cases e4:(pm i).kind=4
  ·rw[if_pos e4];exact all l _
  rw[if_neg e4]
  by_cases e5:(pm i).kind=9\/(pm i).kind=10\/(pm i).kind=14
  ·rw[if_pos e5]
   have n0:0 < (pm i).nk:=by
    exact J156
   simp only[List.length_append]
   exact lst n0 l sc _
  rw[if_neg e5]
  by_cases e6:(pm i).kind=36
  ·rw[if_pos e6]
   have n0:0 < (pm i).nk:=by have:=S.fn e6;omega
   simp only[List.length_append]
   exact lst n0 (l+1) sc _
  rw[if_neg e6]
  exact all l sc
theorem wE_same (hk:∀i,i < np->∀j,j < (pm i).nk->0<=(pm i).kd j/\(pm i).kd j < i)(sh:∀i,i < np->ShapeAt pm i)(hi:i < np)(a:(pm i).kind≠2)(b:(pm i).kind≠3)(c:(pm i).kind≠4)(l:Nat)(sc:List Ent):(wE (pdOf pm) l i sc).2=sc:=by
 rw[wE_at hk sh hi]
 have K:(pdOf pm i).kind=(pm i).kind:=rfl
 unfold partE
 rw[K]
 by_cases e:(pm i).kind=26
 ·rw[if_pos e]
 rw[if_neg e,if_neg a,if_neg b,if_neg c]
 by_cases e5:(pm i).kind=9\/(pm i).kind=10\/(pm i).kind=14
 ·rw[if_pos e5]
 rw[if_neg e5]
 by_cases e6:(pm i).kind=36
 ·rw[if_pos e6]
 rw[if_neg e6]
theorem seq_same (hk:∀i,i < np->∀j,j < (pm i).nk->0<=(pm i).kd j/\(pm i).kd j < i)(sh:∀i,i < np->ShapeAt pm i)(l:Nat)(kd:Nat->Int):∀(c:Nat) (sc:List Ent),(∀q,q < c->(kd q).toNat < np/\(pm (kd q).toNat).kind≠2/\(pm (kd q).toNat).kind≠3/\(pm (kd q).toNat).kind≠4)->(seqE (wE (pdOf pm) l) kd 0 c sc).2=sc
 |0,sc,_=>rfl
 |c+1,sc,h=>by
  simp only[seqE,Nat.zero_add]
  obtain ⟨a,b,d,e⟩:=h c Zo
  rw[wE_same hk sh a b d e,seq_same hk sh l kd c sc (fun q hq=>h q Zo)]
theorem kids_plain (hk:∀i,i < np->∀j,j < (pm i).nk->0<=(pm i).kd j/\(pm i).kd j < i)(sh:∀i,i < np->ShapeAt pm i)(hi:i < np)(h1:(pm i).kind≠1):∀q,q < (pm i).nk->((pm i).kd q).toNat < np/\(pm ((pm i).kd q).toNat).kind≠2/\(pm ((pm i).kd q).toNat).kind≠3/\(pm ((pm i).kd q).toNat).kind≠4:=fun q hq=>by
 have S:=sh i hi
 have lt:=hk i hi q hq
 have np':((pm i).kd q).toNat < np:=Zo
 have h:isE (kk pm i q)\/kk pm i q=1\/kk pm i q=7\/(40<=kk pm i q/\kk pm i q<=42):=by
  have kn:=S.known
  unfold isS isE at kn
  by_cases c2:(pm i).kind=2\/(pm i).kind=5\/(pm i).kind=6\/(pm i).kind=13\/(pm i).kind=15\/(pm i).kind=16\/(28<=(pm i).kind/\(pm i).kind<=32)\/(pm i).kind=34\/(pm i).kind=37
  ·exact Or.inl (S.exprs c2 q hq)
  by_cases c3:(pm i).kind=3
  ·obtain ⟨n1,_,n3⟩:=S.const c3
   obtain rfl:q=0:=Zo
   exact Or.inl n3
  by_cases c4:(pm i).kind=4
  ·obtain ⟨n1,_,n3⟩:=S.sfn c4
   obtain rfl:q=0:=Zo
   exact Or.inl (by unfold isE;omega)
  by_cases c7:(pm i).kind=7
  ·obtain ⟨n1,n2,n3⟩:=S.if_ c7
   exact J93
  by_cases c8:(pm i).kind=8
  ·obtain ⟨n1,n2,n3⟩:=S.while_ c8
   exact J119
  by_cases c9:(pm i).kind=9
  ·rcases S.for_ c9 with ⟨n1,n2,n3⟩|⟨n1,n2,n3⟩
   ·by_cases q2:q < 2
    ·exact Or.inl (n2 q q2)
    ·obtain rfl:q=2:=Zo
     exact Or.inr (Or.inl n3)
   ·by_cases q2:q < 3
    ·exact Or.inl (n2 q q2)
    ·obtain rfl:q=3:=Zo
     exact Or.inr (Or.inl n3)
  by_cases c10:(pm i).kind=10
  ·obtain ⟨n1,n2,n3⟩:=S.each c10
   exact J119
  by_cases c14:(pm i).kind=14
  ·obtain ⟨n1,_,n2,n3⟩:=S.try_ c14
   by_cases q0:q=0
   ·subst q0;exact Or.inr (Or.inl n2)
   ·exact J248
  by_cases c20:20<=(pm i).kind/\(pm i).kind<=25
  ·have:=S.lit c20;omega
  by_cases c40:40<=(pm i).kind
  ·exact Or.inl (S.entry Zo q hq)
  by_cases c33:(pm i).kind=33
  ·obtain ⟨n1,n2⟩:=S.field c33
   exact J213
  by_cases c35:(pm i).kind=35
  ·have:=(S.table c35 q hq).1
   exact J202
  by_cases c36:(pm i).kind=36
  ·obtain ⟨n1,n2⟩:=S.fn c36
   obtain rfl:q=0:=Zo
   exact Or.inr (Or.inl n2)
  have:=S.leaf Zo
  omega
 unfold isE kk at h
 omega
end Go.Proofs.YtlibofjbhhdjdaaGreat
namespace Go.Proofs.YtlibofjbhhdjdaaGreat
open Go.RowKit
attribute [local go_sem] rsf
variable {us:List (List Value)} {r:List RSc} {i l np rp:Nat} {sz:Nat->Nat} {pk:Nat->Option Addr} {pm:Nat->PM} {o:Out} {s:RSc} {v:Value} {w w0 w2:World}
def RdPost (w0:World) (rp:Nat) (w:World) (v:Value) (us:List (List Value)) (s:RSc) (r:List RSc) (w':World) (o:Out):Prop:=
 ∃v' es',RdAt w0 w' rp v' (us++o.1) ({s with es:=es'}::r)/\rflat r++es'=o.2/\RFr w w' rp v v' s.mb/\∀x∈es',x.fn=(s.lv:Int)
def ReadOk (w0:World) (rp:Nat) (pm:Nat->PM) (pk:Nat->Option Addr) (sz:Nat->Nat) (i:Nat):Prop:=
 ∀(w:World) (v:Value) (us:List (List Value)) (s:RSc) (r:List RSc) (l:Nat),RdAt w0 w rp v us (s::r)->LvOk l (s::r)->s.lv=l->(s.mb=none->(pm i).kind=1)->(∀c∈s::r,(i:Int)<=c.fn/\((pm i).kind=36->(i:Int) < c.fn))->us.length+sz i<=1048576->
  Calls Tryz.prog 44 #[.pointer (some ⟨rp,0,none⟩),pv (some (pxOf pm pk i))] w fun e w'=>e= .returned (.tuple #[])/\RdPost w0 rp w v us s r w' (wE (pdOf pm) l i (rflat (s::r)))
theorem RdPost.start (h:RdAt w0 w rp v us (s::r))(lv:LvOk l (s::r)):RdPost w0 rp w v us s r w ([],rflat (s::r)):=
 ⟨v,s.es,by simpa using h,rfl,RFr.refl _ _ _ _,lv.own s List.mem_cons_self⟩
theorem RdPost.step {w0 w w1 w2:World}{v v1:Value}{us us1:List (List Value)}{es1:List Ent}(hu:us1=us++o.1){p:Out}(f:RFr w w1 rp v v1 s.mb)(k:RdPost w0 rp w1 v1 us1 {s with es:=es1} r w2 p):RdPost w0 rp w v us s r w2 (o.1++p.1,p.2):=by
 obtain ⟨v',es',h1,h2,h3,h4⟩:=k
 subst hu
 exact ⟨v',es',by rw[List.append_assoc] at h1;exact h1,h2,f.trans h3,h4⟩
theorem seqE_succ (g:Nat->List Ent->Out)(kd:Nat->Int)(c:Nat)(sc:List Ent):seqE g kd 0 (c+1) sc=((seqE g kd 0 c sc).1++(g (kd c).toNat (seqE g kd 0 c sc).2).1,(g (kd c).toNat (seqE g kd 0 c sc).2).2):=by
 simp only[seqE,Nat.zero_add]
theorem readAll_any {l mb:Nat}(kd:Nat->Int)(n:Nat)(a:Option Addr)(cc:Nat)(hn:n<=200)(hv:ValsAt w0 a n (fun j=>pv (some (pxOf pm pk (kd j).toNat))))(ok:∀j,j < n->ReadOk w0 rp pm pk sz (kd j).toNat)(h:RdAt w0 w rp v us (s::r))(lv:LvOk l (s::r))(hl:s.lv=l)(hm:s.mb=some mb)(hf:∀j,j < n->∀c∈s::r,((kd j).toNat:Int) < c.fn)(hz:us.length+psum sz kd n<=1048576)(len:∀j,j < n->∀sc,(wE (pdOf pm) l (kd j).toNat sc).1.length<=sz (kd j).toNat):
  Calls Tryz.prog 69 #[.pointer (some ⟨rp,0,none⟩),.slice a n cc] w fun e w'=>e= .returned (.tuple #[])/\RdPost w0 rp w v us s r w' (seqE (wE (pdOf pm) l) kd 0 n (rflat (s::r))):=by
 have HH:Hid _:=h
 have HV:Hid _:=hv
 have HL:Hid _:=hl
 have HM:Hid _:=hm
 have HF:Hid _:=hf
 have HZ:Hid _:=hz
 have HOK:Hid _:=ok
 have HLV:Hid _:=lv
 have HLEN:Hid _:=len
 clear h hv hl hm hf hz ok lv len
 go_enter Tryz.func69,Tryz.ntmps69
 go_wp2_with fail
 go_loopw [8] (fun q wr=>∃k:Nat,k<=n/\q= .int .i64 k/\RdPost w0 rp w v us s r wr (seqE (wE (pdOf pm) l) kd 0 k (rflat (s::r)))) (fun q _=>n-(intOf q).toNat)
 case atStart=>exact ⟨0,Nat.zero_le _,rfl,RdPost.start HH.out HLV.out⟩
 case round=>
  obtain ⟨k,hk,rfl,hp⟩:=hrel
  have HP:Hid _:=hp
  clear hp
  by_cases hlt:k < n
  ·obtain ⟨b,off,ha,hc⟩:=HV.out Zo
   obtain ⟨v1,es1,R1,E1,F1,L1⟩:=HP.out
   have c0:wr.cell? ⟨b,off+k,none⟩=some (pv (some (pxOf pm pk (kd k).toNat))):=con R1.on (hc k hlt)
   obtain ⟨T,V,hT⟩:∃T V,pv (some (pxOf pm pk (kd k).toNat))= .iface T V:=⟨_,_,rfl⟩
   rw[hT] at c0
   have HT:Hid _:=hT
   have HR1:Hid _:=R1
   have HE1:Hid _:=E1
   have HF1:Hid _:=F1
   have HL1:Hid _:=L1
   have za:=clt c0
   have k0:(0:Int)<=(k:Int):=Zo
   have k2:(k:Int) < (n:Int):=Zo
   rw[ha]
   clear hc ha hT R1 E1 F1 L1
   go_wp2_with fail
   rw[<-HT.out]
   refine (HOK.out k hlt wr v1 _ {s with es:=es1} r l HR1.out (HLV.out.put HL1.out) HL.out (fun e=>by rw[show ({s with es:=es1}:RSc).mb=some mb from HM.out] at e;cases e) (fun c hc=>?_) ?_).mono ?_
   ·have:∃d∈s::r,c.fn=d.fn:=by
     rcases List.mem_cons.1 hc with rfl|hc
     ·exact ⟨s,List.mem_cons_self,rfl⟩
     ·exact ⟨c,List.mem_cons_of_mem _ hc,rfl⟩
    obtain ⟨d,hd,e⟩:=this
    have:=HF.out k hlt d hd
    rw[e]
    exact ⟨by omega,fun _=>this⟩
   ·have a1:=seq_len (sz:=sz) (c:=k) (kd:=kd) (g:=wE (pdOf pm) l) (fun q hq sc=>HLEN.out q Zo sc) (rflat (s::r))
    have a2:=psum_le (sz:=sz) (kd:=kd) (show k+1<=n by omega)
    have a3:=HZ.out
    simp only[psum] at a2
    rw[List.length_append]
    omega
   rintro e w2 ⟨rfl,P2⟩
   have HP2:Hid (RdPost w0 rp w v us s r w2 (seqE (wE (pdOf pm) l) kd 0 (k+1) (rflat (s::r)))):=by
    show RdPost _ _ _ _ _ _ _ _ _
    rw[seqE_succ]
    have e1:rflat ({s with es:=es1}::r)=(seqE (wE (pdOf pm) l) kd 0 k (rflat (s::r))).2:=HE1.out
    rw[e1] at P2
    exact RdPost.step rfl HF1.out P2
   clear P2
   go_wp2_with fail
   go_roundw
   case rel=>exact ⟨k+1,by omega,by go_num,HP2.out⟩
   case measure=>simp[intOf];omega
  ·obtain rfl:k=n:=Zo
   go_wp2_with fail
   exact bodyPost_end (v:= .tuple #[]) (results_none rfl _ _ _) rfl ⟨rfl,HP.out⟩
structure PcAt (w0:World) (np:Nat) (pm:Nat->PM) (pk:Nat->Option Addr):Prop where
 kids:∀i,i < np->ValsAt w0 (pk i) (knP (pm i).toPD) (fun j=>pv (kidX (pm i).toPD (pxOf pm pk) i j))
 strs:∀i,i < np->StrsAt w0 (pm i).na (pm i).nn (pm i).nm
 slim:∀i,i < np->(pm i).nk<=200/\(pm i).nn<=200
 kid:∀i,i < np->∀j,j < (pm i).nk->0<=(pm i).kd j/\(pm i).kd j < i
theorem PcAt.kn (h:PcAt w0 np pm pk)(hi:i < np):knP (pm i).toPD=(pm i).nk:=by
 unfold knP
 exact if_pos (h.slim i hi)
theorem PcAt.at_ (h:PcAt w0 np pm pk)(hi:i < np):ValsAt w0 (pk i) (pm i).nk (fun j=>pv (some (pxOf pm pk ((pm i).kd j).toNat))):=fun h0=>by
 have K:=h.kids i hi
 rw[h.kn hi] at K
 obtain ⟨b,off,ha,hc⟩:=K h0
 refine ⟨b,off,ha,fun j hj=>?_⟩
 rw[hc j hj]
 unfold kidX
 have k:=h.kid i hi j hj
 show some (pv (if 0<=(pm i).kd j/\(pm i).kd j < i then _ else _))=_
 rw[if_pos k]
theorem RdAt.free {ch:List RSc}(h:RdAt w0 w rp v us ch){mb:Option Nat}(hm:mb=none\/∃b es c,mb=some b/\w.heap[b]?= some (.map es c)){g:Nat}{e:TypeId}{cur:Array Value}(B:Blk w g e cur)(h1:e≠83)(h2:e≠58):rfree w rp v mb g:=
 ⟨B.lt,blk_type B h.blk h1,row_blk h.row B h2,fun he=>by
  rcases hm with rfl|⟨b,es,c,rfl,hb⟩
  ·cases he
  ·simp only[Option.some.injEq] at he
   exact blk_map B hb he.symm⟩
theorem RdAt.map (h:RdAt w0 w rp v us (s::r)):s.mb=none\/∃b es c,s.mb=some b/\w.heap[b]?= some (.map es c):=by
 cases e:s.mb with
 |none=>exact Or.inl rfl
 |some b=>
  obtain ⟨es,c,hb⟩:=(h.sco.blocks s List.mem_cons_self).2 b e
  exact Or.inr ⟨b,es,c,rfl,hb⟩
theorem readBlock_any (m:PM)(i:Nat)(kk:Option Addr)(kc:Nat)(hn:m.nk<=200)(hv:ValsAt w0 kk m.nk (fun j=>pv (some (pxOf pm pk (m.kd j).toNat))))(ok:∀j,j < m.nk->ReadOk w0 rp pm pk sz (m.kd j).toNat)(h:RdAt w0 w rp v us (s::r))(lv:LvOk l (s::r))(hl:s.lv=l)(hf:∀j,j < m.nk->∀c∈s::r,((m.kd j).toNat:Int) < c.fn)(hz:us.length+psum sz m.kd m.nk<=1048576)(len:∀j,j < m.nk->∀sc,(wE (pdOf pm) l (m.kd j).toNat sc).1.length<=sz (m.kd j).toNat):
  Calls Tryz.prog 68 #[.pointer (some ⟨rp,0,none⟩),.agg (XA m i kk m.nk kc)] w fun e w'=>e= .returned (.tuple #[])/\RdPost w0 rp w v us s r w' ((seqE (wE (pdOf pm) l) m.kd 0 m.nk (rflat (s::r))).1,rflat (s::r)):=by
 unfold XA
 have HH:Hid _:=h
 have HV:Hid _:=hv
 have HL:Hid _:=hl
 have HF:Hid _:=hf
 have HZ:Hid _:=hz
 have HOK:Hid _:=ok
 have HLV:Hid _:=lv
 have HLEN:Hid _:=len
 have O0:Hid _:=Onw.alloc w (Obj.cells (XA m i kk m.nk kc) 129)
 have N0:=Blk.new w 129 (XA m i kk m.nk kc)
 have b0:w.cell? ⟨rp,0,none⟩=some (.pointer (some ⟨s.sb,0,none⟩)):=Blk.at_ h.blk 0 rfl
 have b1:=Blk.at_ h.sco.1 1 rfl
 have z0:=clt b0
 have z1:=clt b1
 clear h hv hl hf hz ok lv len
 go_enter_defers Tryz.func68,Tryz.ntmps68
 go_wp2_with fail
 obtain ⟨G,hG⟩:∃G,w.heap.size=G:=⟨_,rfl⟩
 rw[hG] at N0 ⊢
 have HG:Hid _:=hG
 clear hG b0 b1 z0 z1
 have HH1:Hid _:=HH.out.onw O0.out
 generalize w.alloc (Obj.cells (XA m i kk m.nk kc) 129)=w1 at*
 refine (open_any s.fn HH1.out).mono ?_
 rintro e w2 ⟨rfl,sb,mb,hmb,hR,hFr⟩
 have HR2:Hid _:=hR s.lv
 have HF2:Hid _:=hFr s.mb
 have HMB:Hid _:=hmb
 have N2:=N0.kept (hFr none).kept (HH1.out.free (Or.inl rfl) N0 Zb Zb)
 have g11:=Blk.at_ N2 11 rfl
 have zg:=clt g11
 clear hR hFr hmb N0 N2
 go_wp2_with fail
 refine (readAll_any (mb:=mb) m.kd m.nk kk kc hn HV.out HOK.out HR2.out (HLV.out.push rfl rfl rfl) HL.out rfl (fun j hj c hc=>?_) HZ.out HLEN.out).mono ?_
 ·rcases List.mem_cons.1 hc with rfl|hc
  ·exact HF.out j hj s List.mem_cons_self
  ·exact HF.out j hj c hc
 rintro e w3 ⟨rfl,v',es',R3,E3,F3,L3⟩
 have HR3:Hid _:=R3
 have HF3:Hid _:=F3
 clear R3 E3 F3 L3
 go_wp2_with fail
 refine leaves_cons (f:=88) (args:= #[.pointer (some ⟨rp,0,none⟩)]) J269 (by simp[go_sem]) ?_
 refine (close_d HR3.out).mono ?_
 rintro e u' w4 ⟨rfl,rfl,R4,F4⟩
 refine ⟨_,results_none rfl _ _ _,rfl,v',s.es,?_,rfl,?_,HLV.out.own s List.mem_cons_self⟩
 ·have e:rflat (({sb:=sb,mb:=some mb,fn:=s.fn,lv:=s.lv,es:= []}:RSc)::s::r)=rflat (s::r):=List.append_nil _
  rw[e] at R4
  exact R4
 ·have hb:w.heap.size<=mb:=Nat.le_trans O0.out.size HMB.out
  exact (((RFr.onw O0.out rp v s.mb).trans HF2.out).inner hb HF3.out).trans (F4 s.mb)
theorem ValsAt.first {a:Option Addr}{n k:Nat}{f:Nat->Value}(h:ValsAt w a n f)(hk:k<=n):ValsAt w a k f:=fun h0=>by
 obtain ⟨b,off,ha,hc⟩:=h Zo
 exact ⟨b,off,ha,fun j hj=>hc j Zo⟩
theorem readLast_any {l mb:Nat}(m:PM)(i:Nat)(kk:Option Addr)(n:Nat)(F:Int)(l':Nat)(hn:n+1<=200)(hnn:m.nn<=200)(hv:ValsAt w0 kk (n+1) (fun j=>pv (some (pxOf pm pk (m.kd j).toNat))))(hs:StrsAt w0 m.na m.nn m.nm)(ok:∀j,j < n+1->ReadOk w0 rp pm pk sz (m.kd j).toNat)(h:RdAt w0 w rp v us (s::r))(lv:LvOk l (s::r))(hl:s.lv=l)(hm:s.mb=some mb)(hlv:∀t:RSc,t.fn=F->t.lv=l'->t.es= []->LvOk l' (t::s::r))(hf:∀j,j < n+1->∀c∈s::r,((m.kd j).toNat:Int) < c.fn)(hF:((m.kd n).toNat:Int) < F)(hz:us.length+psum sz m.kd (n+1)<=1048576)(len:∀j,j < n+1->∀sc,(wE (pdOf pm) l (m.kd j).toNat sc).1.length<=sz (m.kd j).toNat)(same:(seqE (wE (pdOf pm) l) m.kd 0 n (rflat (s::r))).2=rflat (s::r)):
  Calls Tryz.prog 71 #[.pointer (some ⟨rp,0,none⟩),.agg (XA m i kk (n+1) (n+1)),.int .i64 F] w fun e w'=>e= .returned (.tuple #[])/\RdPost w0 rp w v us s r w' ((seqE (wE (pdOf pm) l) m.kd 0 n (rflat (s::r))).1++(wE (pdOf pm) l' (m.kd n).toNat (rflat (s::r)++declE i m.nm l' false m.nn)).1,rflat (s::r)):=by
 unfold XA
 obtain ⟨b,off,rfl,hc⟩:=hv Zo
 have HH:Hid _:=h
 have HV:Hid _:=hv
 have HC:Hid _:=hc
 have HS:Hid _:=hs
 have HL:Hid _:=hl
 have HM:Hid _:=hm
 have HF:Hid _:=hf
 have HFF:Hid _:=hF
 have HZ:Hid _:=hz
 have HOK:Hid _:=ok
 have HLV:Hid _:=lv
 have HLV':Hid _:=hlv
 have HLEN:Hid _:=len
 have HSAME:Hid _:=same
 have O0:Hid _:=Onw.alloc w (Obj.cells (XA m i (some ⟨b,off,none⟩) (n+1) (n+1)) 104)
 have N0:=Blk.new w 104 (XA m i (some ⟨b,off,none⟩) (n+1) (n+1))
 clear h hv hc hs hl hm hf hF hz ok lv hlv len same
 have n0:(0:Int)<=(n:Int):=Zo
 go_enter_defers Tryz.func71,Tryz.ntmps71
 go_wp2_with fail
 obtain ⟨G,hG⟩:∃G,w.heap.size=G:=⟨_,rfl⟩
 rw[hG] at N0 ⊢
 have HG:Hid _:=hG
 clear hG
 have HH1:Hid _:=HH.out.onw O0.out
 generalize w.alloc (Obj.cells (XA m i (some ⟨b,off,none⟩) (n+1) (n+1)) 104)=w1 at*
 refine (readAll_any (mb:=mb) m.kd n (some ⟨b,off,none⟩) _ Zo (ValsAt.first (n:=n+1) HV.out Zo) (fun j hj=>HOK.out j Zo) HH1.out HLV.out HL.out HM.out (fun j hj=>HF.out j Zo) (by have:=HZ.out;simp only[psum] at this;omega) (fun j hj=>HLEN.out j Zo)).mono ?_
 rintro e w2 ⟨rfl,v1,es1,R1,E1,F1,L1⟩
 have e1:es1=s.es:=by
  exact J179
 subst e1
 have HR1:Hid (RdAt w0 w2 rp v1 _ (s::r)):=R1
 have HF1:Hid _:=F1
 have N2:=N0.kept F1.kept (HH1.out.free HH1.out.map N0 Zb Zb)
 clear R1 E1 F1 L1 N0
 go_wp2_with fail
 refine (open_any F HR1.out).mono ?_
 rintro e w3 ⟨rfl,sb,mb3,hmb,hR,hFr⟩
 have HR3:Hid _:=hR l'
 have HF3:Hid _:=hFr s.mb
 have HMB:Hid _:=hmb
 have N3:=N2.kept (hFr none).kept (HR1.out.free (Or.inl rfl) N2 Zb Zb)
 clear hR hFr hmb N2
 have g0:=Blk.at_ N3 0 rfl
 have g1:=Blk.at_ N3 1 rfl
 have g2:=Blk.at_ N3 2 rfl
 have g3:=Blk.at_ N3 3 rfl
 have g4:=Blk.at_ N3 4 rfl
 have g5:=Blk.at_ N3 5 rfl
 have g6:=Blk.at_ N3 6 rfl
 have g7:=Blk.at_ N3 7 rfl
 have g8:=Blk.at_ N3 8 rfl
 have g9:=Blk.at_ N3 9 rfl
 have g10:=Blk.at_ N3 10 rfl
 have g11:=Blk.at_ N3 11 rfl
 have zg:=clt g0
 go_wp2_with fail
 refine (declare_any (mb:=mb3) m i _ _ _ 1 false rfl HR3.out rfl HS.out hnn).mono ?_
 rintro e w4 ⟨rfl,R4,F4⟩
 have HR4:Hid _:=R4
 have HF4:Hid _:=F4
 have N4:=N3.kept F4.kept (HR3.out.free HR3.out.map N3 Zb Zb)
 clear R4 F4 N3 g0 g1 g2 g3 g4 g5 g6 g7 g8 g9 g10 g11 zg
 have g11:=Blk.at_ N4 11 rfl
 have zg:=clt g11
 obtain ⟨T,V,hT⟩:∃T V,pv (some (pxOf pm pk (m.kd n).toNat))= .iface T V:=⟨_,_,rfl⟩
 have c0:w4.cell? ⟨b,off+n,none⟩=some (.iface T V):=by rw[<-hT];exact con HR4.out.on (HC.out n Zo)
 have zc:=clt c0
 have HT:Hid _:=hT
 clear hT N4
 go_wp2_with fail
 rw[<-HT.out]
 refine (HOK.out n Zo w4 v1 _ _ (s::r) l' HR4.out ((HLV'.out ⟨sb,some mb3,F,l', []⟩ rfl rfl rfl).put (fun x hx=>?_)) rfl (fun e=>by cases e) (fun c hc=>?_) ?_).mono ?_
 ·rw[List.nil_append] at hx
  exact declE_fn x hx
 ·rcases List.mem_cons.1 hc with rfl|hc
  ·exact ⟨Int.le_of_lt HFF.out,fun _=>HFF.out⟩
  ·have:=HF.out n Zo c hc
   exact ⟨Int.le_of_lt this,fun _=>this⟩
 ·have a1:=seq_len (sz:=sz) (c:=n) (kd:=m.kd) (g:=wE (pdOf pm) l) (fun q hq sc=>HLEN.out q Zo sc) (rflat (s::r))
  have a3:=HZ.out
  simp only[psum] at a3
  rw[List.length_append]
  omega
 rintro e w5 ⟨rfl,v5,es5,R5,E5,F5,L5⟩
 have HR5:Hid _:=R5
 have HF5:Hid _:=F5
 clear R5 E5 F5 L5
 go_wp2_with fail
 refine leaves_cons (f:=88) (args:= #[.pointer (some ⟨rp,0,none⟩)]) J269 (by simp[go_sem]) ?_
 refine (close_d HR5.out).mono ?_
 rintro e u' w6 ⟨rfl,rfl,R6,F6⟩
 refine ⟨_,results_none rfl _ _ _,rfl,v5,s.es,?_,rfl,?_,HLV.out.own s List.mem_cons_self⟩
 ·have e:rflat (({sb:=sb,mb:=some mb3,fn:=F,lv:=l',es:= []++declE i m.nm l' false m.nn}:RSc)::s::r)=rflat (s::r)++declE i m.nm l' false m.nn:=rfl
  have R7:=R6
  rw[e,List.append_assoc] at R7
  exact R7
 ·exact (((RFr.onw O0.out rp v s.mb).trans HF1.out).trans (HF3.out.inner HMB.out (HF4.out.trans HF5.out))).trans (F6 s.mb)
theorem RdPost.onw {w0 w w1 w2:World}(h:RdPost w0 rp w1 v us s r w2 o)(b:Onw w w1):RdPost w0 rp w v us s r w2 o:=by
 obtain ⟨v',es',h1,h2,h3,h4⟩:=h
 exact ⟨v',es',h1,h2,(RFr.onw b rp v s.mb).trans h3,h4⟩
theorem rdpost_cell0 (h:RdPost w0 rp w v us s r w2 o):w2.cell? ⟨rp,0,none⟩=some (.pointer (some ⟨s.sb,0,none⟩)):=by
 obtain ⟨v',es',h1,h2,h3,h4⟩:=h
 rw[h1.blk.cell];rfl
theorem rdpost_cell1 (h:RdPost w0 rp w v us s r w2 o):w2.cell? ⟨s.sb,1,none⟩=some (.int .i64 s.fn):=by
 obtain ⟨v',es',h1,h2,h3,h4⟩:=h
 rw[h1.sco.1.cell];rfl
theorem read_block (m:PM)(i:Nat)(kk:Option Addr)(hn:m.nk<=200)(hv:ValsAt w0 kk m.nk (fun j=>pv (some (pxOf pm pk (m.kd j).toNat))))(ok:∀j,j < m.nk->ReadOk w0 rp pm pk sz (m.kd j).toNat)(h:RdAt w0 w rp v us (s::r))(lv:LvOk l (s::r))(hl:s.lv=l)(hf:∀j,j < m.nk->∀c∈s::r,((m.kd j).toNat:Int) < c.fn)(hz:us.length+psum sz m.kd m.nk<=1048576)(len:∀j,j < m.nk->∀sc,(wE (pdOf pm) l (m.kd j).toNat sc).1.length<=sz (m.kd j).toNat):
  Calls Tryz.prog 44 #[.pointer (some ⟨rp,0,none⟩),.iface 129 (.agg (XA m i kk m.nk m.nk))] w fun e w'=>e= .returned (.tuple #[])/\RdPost w0 rp w v us s r w' ((seqE (wE (pdOf pm) l) m.kd 0 m.nk (rflat (s::r))).1,rflat (s::r)):=by
 unfold XA
 have HH:Hid _:=h
 have HHV:Hid _:=hv
 have HOK:Hid _:=ok
 have HLV:Hid _:=lv
 have HHL:Hid _:=hl
 have HHF:Hid _:=hf
 have HHZ:Hid _:=hz
 have HLEN:Hid _:=len
 clear h hv ok lv hl hf hz len
 have a_block:=as_block_yes
 have O0:Hid _:=Onw.alloc w (Obj.cells (XA m i kk m.nk m.nk) 129)
 have N1:=Blk.new w 129 (XA m i kk m.nk m.nk)
 go_enter Tryz.func44,Tryz.ntmps44
 go_wp2_with fail
 obtain ⟨G,hG⟩:∃G,w.heap.size=G:=⟨_,rfl⟩
 rw[hG] at N1 ⊢
 have HG:Hid _:=hG
 clear hG
 have HH1:Hid _:=HH.out.onw O0.out
 generalize w.alloc (Obj.cells (XA m i kk m.nk m.nk) 129)=w1 at*
 refine (readBlock_any m i kk m.nk hn HHV.out HOK.out HH1.out HLV.out HHL.out HHF.out HHZ.out HLEN.out).mono ?_
 rintro e w2 ⟨rfl,P2⟩
 have HP2:Hid _:=P2.onw O0.out
 clear P2
 exact J142
end Go.Proofs.YtlibofjbhhdjdaaGreat
