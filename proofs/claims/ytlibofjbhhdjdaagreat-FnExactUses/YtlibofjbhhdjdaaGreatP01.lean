import Derived.Test.YtlibofjbhhdjdaaGreatQ
import Derived.Test.YtlibofjbhhdjdaaGreatP00
import Derived.Test.YtlibofjbhhdjdaaGreatRows
set_option linter.unusedSimpArgs false
set_option maxRecDepth 100000
set_option maxHeartbeats 16000000
namespace Go.Proofs.YtlibofjbhhdjdaaGreat
open Go.RowKit
variable {i np:Nat} {pd:Nat->PD}
structure Ent where
 name:ByteArray
 part:Int
 place:Int
 fn:Int
 fixed:Bool
def Ent.cells (x:Ent):List Value:= [.string x.name,.int .i64 x.part,.int .i64 x.place,.int .i64 x.fn,.bool x.fixed]
def findE (name:ByteArray):List Ent->Option Ent
 | []=>none
 |x::xs=>match findE name xs with
  |some y=>some y
  |none=>bif x.name.toList==name.toList then some x else none
theorem findE_append (name:ByteArray):∀(a b:List Ent),findE name (a++b)=match findE name b with|some y=>some y|none=>findE name a
 | [],b=>by
  simp only[List.nil_append,findE]
  cases findE name b <;> rfl
 |x::a,b=>by
  simp only[List.cons_append,findE]
  rw[findE_append name a b]
  cases findE name b <;> rfl
theorem findE_snoc (name:ByteArray)(a:List Ent)(x:Ent):findE name (a++ [x])=bif x.name.toList==name.toList then some x else findE name a:=by
 rw[findE_append]
 simp only[findE]
 cases x.name.toList==name.toList <;> rfl
theorem findE_mem {name:ByteArray}:∀{a:List Ent} {x:Ent},findE name a=some x->x∈a/\x.name.toList=name.toList
 | [],x,h=>by simp[findE] at h
 |y::a,x,h=>by
  simp only[findE] at h
  cases e:findE name a with
  |some z=>
   rw[e] at h
   simp only[Option.some.injEq] at h
   subst h
   exact ⟨List.mem_cons_of_mem _ (findE_mem e).1,(findE_mem e).2⟩
  |none=>
   rw[e] at h
   simp only at h
   cases hc:(y.name.toList==name.toList)
   ·rw[hc] at h;simp at h
   ·rw[hc] at h
    simp only[cond_true,Option.some.injEq] at h
    subst h
    exact ⟨List.mem_cons_self,by simpa using hc⟩
def builtinAt (i:Nat):ByteArray:=
 match i with
 |0=>⟨#[112,114,105,110,116]⟩
 |1=>⟨#[114,101,97,100]⟩
 |2=>⟨#[116,121,112,101]⟩
 |3=>⟨#[116,101,120,116]⟩
 |4=>⟨#[115,101,116,107,105,110,100]⟩
 |5=>⟨#[107,105,110,100]⟩
 |6=>⟨#[114,97,119,103,101,116]⟩
 |7=>⟨#[114,97,119,115,101,116]⟩
 |8=>⟨#[116,97,115,107]⟩
 |9=>⟨#[114,101,115,117,109,101]⟩
 |10=>⟨#[121,105,101,108,100]⟩
 |11=>⟨#[115,116,97,116,117,115]⟩
 |12=>⟨#[103,105,118,101,117,112]⟩
 |13=>⟨#[99,111,108,108,101,99,116]⟩
 |_=>⟨#[99,101,108,108,115]⟩
def builtinB (s:ByteArray):Nat->Option Nat
 |0=>none
 |n+1=>bif (builtinAt n).toList==s.toList then some n else builtinB s n
def useOf (sc:List Ent) (l:Nat) (i:Nat) (s:ByteArray):List Value:=
 match findE s sc with
 |some x=> [.int .i64 i,.int .i64 (bif x.fixed then 3 else bif x.fn==(l:Int) then 1 else 2),.int .i64 x.part,.int .i64 x.place]
 |none=>match builtinB s 15 with
  |some b=> [.int .i64 i,.int .i64 4,.int .i64 (-1),.int .i64 b]
  |none=> [.int .i64 i,.int .i64 0,.int .i64 (-1),.int .i64 0]
def declE (i:Nat) (nm:Nat->ByteArray) (l:Nat) (fixed:Bool):Nat->List Ent
 |0=> []
 |c+1=>declE i nm l fixed c++ [⟨nm c,i,c,l,fixed⟩]
abbrev Out:=List (List Value)×List Ent
def seqE (g:Nat->List Ent->Out) (kd:Nat->Int) (j:Nat):Nat->List Ent->Out
 |0,sc=>([],sc)
 |c+1,sc=>((seqE g kd j c sc).1++(g (kd (j+c)).toNat (seqE g kd j c sc).2).1,(g (kd (j+c)).toNat (seqE g kd j c sc).2).2)
def partE (d:PD) (i l:Nat) (g:Nat->Nat->List Ent->Out) (sc:List Ent):Out:=
 if d.kind=26 then ([useOf sc l i d.text],sc)
 else if d.kind=2 then ((seqE (g l) d.kd 0 d.nk sc).1,sc++declE i d.nm l false d.nn)
 else if d.kind=3 then ((seqE (g l) d.kd 0 d.nk sc).1,sc++declE i d.nm l true d.nn)
 else if d.kind=4 then ((seqE (g l) d.kd 0 d.nk (sc++declE i d.nm l false d.nn)).1,sc++declE i d.nm l false d.nn)
 else if d.kind=9\/d.kind=10\/d.kind=14 then ((seqE (g l) d.kd 0 (d.nk-1) sc).1++(g l (d.kd (d.nk-1)).toNat (sc++declE i d.nm l false d.nn)).1,sc)
 else if d.kind=36 then ((seqE (g (l+1)) d.kd 0 (d.nk-1) sc).1++(g (l+1) (d.kd (d.nk-1)).toNat (sc++declE i d.nm (l+1) false d.nn)).1,sc)
 else ((seqE (g l) d.kd 0 d.nk sc).1,sc)
def walkE (pd:Nat->PD):Nat->Nat->Nat->List Ent->Out
 |0,_,_,sc=>([],sc)
 |n+1,l,i,sc=>partE (pd i) i l (fun l k sc=>walkE pd n l k sc) sc
theorem seqE_congr {g g':Nat->List Ent->Out}{kd:Nat->Int}{j:Nat}:∀{c:Nat} {sc:List Ent},(∀q,q < c->∀sc,g (kd (j+q)).toNat sc=g' (kd (j+q)).toNat sc)->seqE g kd j c sc=seqE g' kd j c sc
 |0,_,_=>rfl
 |c+1,sc,h=>by
  simp only[seqE]
  rw[seqE_congr (c:=c) (fun q hq=>h q Zo),h c Zo]
theorem partE_congr {d:PD}{i l:Nat}{g g':Nat->Nat->List Ent->Out}{sc:List Ent}(h0:0 < d.nk\/(d.kind≠9/\d.kind≠10/\d.kind≠14/\d.kind≠36))(h:∀l q,q < d.nk->∀sc,g l (d.kd q).toNat sc=g' l (d.kd q).toNat sc):partE d i l g sc=partE d i l g' sc:=by
 unfold partE
 have e:∀l c sc,c<=d.nk->seqE (g l) d.kd 0 c sc=seqE (g' l) d.kd 0 c sc:=fun l c sc hc=>seqE_congr (fun q hq sc=>by rw[Nat.zero_add];exact h l q Zo sc)
 have e2:0 < d.nk->∀l sc,g l (d.kd (d.nk-1)).toNat sc=g' l (d.kd (d.nk-1)).toNat sc:=fun h1 l sc=>h l _ Zo sc
 simp only[e _ d.nk _ (Nat.le_refl _),e _ (d.nk-1) _ (Nat.sub_le _ _)]
 by_cases h1:0 < d.nk
 ·simp only[e2 h1]
 ·have h3:=h0.resolve_left h1
  simp only[h3.1,h3.2.1,h3.2.2.1,h3.2.2.2,or_self,if_false]
theorem walkE_fuel (hk:∀i,i < np->∀j,j < (pd i).nk->0<=(pd i).kd j/\(pd i).kd j < i)(h0:∀i,i < np->0 < (pd i).nk\/((pd i).kind≠9/\(pd i).kind≠10/\(pd i).kind≠14/\(pd i).kind≠36))(i:Nat):∀n l sc,i < np->i < n->walkE pd n l i sc=walkE pd (i+1) l i sc:=by
 induction i using Nat.strongRecOn with
 |_ i ih=>
  intro n l sc hi hn
  obtain ⟨n,rfl⟩:∃m,n=m+1:=⟨n-1,by omega⟩
  show partE _ _ _ _ _=partE _ _ _ _ _
  refine partE_congr (h0 i hi) (fun l q hq sc=>?_)
  obtain ⟨a,b⟩:=hk i hi q hq
  have hlt:((pd i).kd q).toNat < i:=Zo
  rw[ih _ hlt n l sc Zo Zo,ih _ hlt i l sc Zo hlt]
def wE (pd:Nat->PD) (l i:Nat) (sc:List Ent):Out:=walkE pd (i+1) l i sc
theorem wE_eq (hk:∀i,i < np->∀j,j < (pd i).nk->0<=(pd i).kd j/\(pd i).kd j < i)(h0:∀i,i < np->0 < (pd i).nk\/((pd i).kind≠9/\(pd i).kind≠10/\(pd i).kind≠14/\(pd i).kind≠36))(hi:i < np)(l:Nat)(sc:List Ent):wE pd l i sc=partE (pd i) i l (fun l k sc=>wE pd l k sc) sc:=by
 show walkE pd (i+1) l i sc=_
 rw[walkE]
 refine partE_congr (h0 i hi) (fun l q hq sc=>?_)
 obtain ⟨a,b⟩:=hk i hi q hq
 exact walkE_fuel hk h0 _ i l sc Zo Zo
end Go.Proofs.YtlibofjbhhdjdaaGreat
namespace Go.Proofs.YtlibofjbhhdjdaaGreat
open Go.RowKit
open Go.MapKept
variable {es:Array MapEntry} {L:List Ent} {P:Program} {e k t:TypeId} {w:World}
theorem same_name {a b:ByteArray}:(a.toList==b.toList)=true↔a=b:=by
 rw[ByteArray.toList_eq,ByteArray.toList_eq,beq_iff_eq]
 constructor
 ·intro h
  cases a;cases b
  simp only[ByteArray.mk.injEq]
  exact Array.toList_inj.1 h
 ·rintro rfl;rfl
def dval (x:Ent):Value:= .agg #[.int .i64 (bif x.fixed then 3 else 1),.int .i64 x.part,.int .i64 x.place]
structure MapIs (es:Array MapEntry) (L:List Ent):Prop where
 str:∀x∈es.toList,IsKey .string x.key
 one:es.toList.Pairwise (fun x y=>x.key≠y.key)
 has:∀e∈es.toList,∀s,e.key= .string s->∃x,findE s L=some x/\e.val=dval x
 all:∀s,(∀e∈es.toList,e.key≠.string s)->findE s L=none
theorem MapIs.nil:MapIs #[] []:=⟨by simp,by simp,by simp,fun _ _=>rfl⟩
theorem findE_last (t:ByteArray)(L:List Ent)(x:Ent):findE t (L++ [x])=if x.name=t then some x else findE t L:=by
 rw[findE_snoc]
 by_cases h:x.name=t
 ·rw[if_pos h,same_name.2 h];rfl
 ·rw[if_neg h]
  cases e:(x.name.toList==t.toList)
  ·rfl
  ·exact absurd (same_name.1 e) h
theorem str_key {v:Value}(h:IsKey .string v):∃s,v= .string s:=by
 cases v <;> simp[IsKey] at h
 exact ⟨_,rfl⟩
theorem run_look {b:Nat}{c:Nat}(ht:P.underlying t=some (.map k e))(hk:P.underlying k=some .string)(hb:w.heap[b]?= some (.map es c))(h:MapIs es L)(s:ByteArray)(z:Value)(hz:(zeroValue e).run P w= .ok z w):
  (Instr.lookup t (.map (some b)) (.string s) true).run P w= .ok (match findE s L with|some x=> .tuple #[dval x,.bool true]|none=> .tuple #[z,.bool false]) w:=by
 rcases findNow_spec (d:= .string) (k:= .string s) trivial es.toList 0 h.str with ⟨h1,h2⟩|⟨j,e0,h1,h2,h3⟩
 ·rw[h.all s h2]
  simp[Instr.lookup,run_underlying ht,MapKept.run_getObj_map hb,run_checkKey hk (k:= .string s) trivial,run_findKey hk h1,Result.andThen,hz]
 ·obtain ⟨x,hx,hv⟩:=h.has e0 (List.mem_of_getElem? h2) s h3
  rw[hx]
  simp[Instr.lookup,run_underlying ht,MapKept.run_getObj_map hb,run_checkKey hk (k:= .string s) trivial,run_findKey hk h1,Result.andThen,hv]
theorem run_look_nil (ht:P.underlying t=some (.map k e))(hk:P.underlying k=some .string)(s:ByteArray)(z:Value)(hz:(zeroValue e).run P w= .ok z w):
  (Instr.lookup t (.map none) (.string s) true).run P w= .ok (.tuple #[z,.bool false]) w:=by
 simp[Instr.lookup,run_underlying ht,run_checkKey hk (k:= .string s) trivial,run_findKey hk (l:= []) (a:=none) (k:= .string s) rfl,Result.andThen,hz]
theorem run_upd (b:Nat)(c:Nat)(ht:P.underlying t=some (.map k e))(hk:P.underlying k=some .string)(h:MapIs es L)(x:Ent):
  ∃es' c',(∀w:World,w.heap[b]?= some (.map es c)->(Instr.mapUpdate t (.map (some b)) (.string x.name) (dval x)).run P w= .ok () {w with heap:=w.heap.setIfInBounds b (.map es' c')})/\MapIs es' (L++ [x]):=by
 rcases findNow_spec (d:= .string) (k:= .string x.name) trivial es.toList 0 h.str with ⟨h1,h2⟩|⟨j,e0,h1,h2,h3⟩
 ·refine ⟨es.push ⟨.string x.name,dval x,c⟩,c+1,?_,⟨?_,?_,?_,?_⟩⟩
  ·intro w hb
   simp[Instr.mapUpdate,run_underlying ht,MapKept.run_getObj_map hb,run_checkKey hk (k:= .string x.name) trivial,run_findKey hk h1,MapKept.run_setObj_map _ hb,Result.andThen]
  ·intro y hy
   rw[Array.toList_push,List.mem_append,List.mem_singleton] at hy
   rcases hy with hy|rfl
   ·exact h.str y hy
   ·trivial
  ·rw[Array.toList_push,List.pairwise_append]
   exact ⟨h.one,by simp,fun a ha b hb=>by rw[List.mem_singleton] at hb;subst hb;exact h2 a ha⟩
  ·intro y hy s hs
   rw[Array.toList_push,List.mem_append,List.mem_singleton] at hy
   rcases hy with hy|rfl
   ·rw[findE_last,if_neg (fun hn=>h2 y hy (by rw[hs,hn]))]
    exact h.has y hy s hs
   ·exact J172
  ·intro s hs
   rw[findE_last,if_neg (fun hn=>hs ⟨.string x.name,dval x,c⟩ J269 (by rw[hn]))]
   exact h.all s (fun e he=>hs e (by simp[Array.mem_toList_iff.1 he]))
 ·have hj:es[j]?= some e0:=by rw[<-Array.getElem?_toList];exact h2
  have hm:es.modify j (fun e=>{e with key:= .string x.name,val:=dval x})=es.setIfInBounds j ⟨.string x.name,dval x,e0.born⟩:=by
   obtain ⟨hlt,he⟩:=Array.getElem?_eq_some_iff.1 hj
   apply Array.ext J269
   intro i h1 h2
   simp only[Array.getElem_modify,Array.getElem_setIfInBounds (by simpa using h1)]
   by_cases e:j=i
   ·subst e;simp[he]
   ·simp[e]
  have lt:j < es.toList.length:=(List.getElem?_eq_some_iff.1 h2).1
  have tl:(es.setIfInBounds j ⟨.string x.name,dval x,e0.born⟩).toList=es.toList.set j ⟨.string x.name,dval x,e0.born⟩:=J269
  have oth:∀y∈es.toList.set j ⟨.string x.name,dval x,e0.born⟩,y=⟨.string x.name,dval x,e0.born⟩\/(y∈es.toList/\y.key≠.string x.name):=by
   intro y hy
   obtain ⟨i,hi,hy⟩:=List.mem_iff_getElem.1 hy
   rw[List.getElem_set] at hy
   by_cases e:j=i
   ·rw[if_pos e] at hy;exact Or.inl hy.symm
   ·rw[if_neg e] at hy
    rw[List.length_set] at hi
    refine Or.inr ⟨hy▸List.getElem_mem hi,fun hk=>?_⟩
    have hp:=List.pairwise_iff_getElem.1 h.one
    have ej:es.toList[j]=e0:=(List.getElem?_eq_some_iff.1 h2).2
    rcases Nat.lt_or_ge j i with hlt|hge
    ·exact hp j i lt hi hlt (by rw[ej,h3,hy,hk])
    ·exact hp i j hi lt Zo (by rw[ej,h3,hy,hk])
  have new:(⟨.string x.name,dval x,e0.born⟩:MapEntry)∈es.toList.set j ⟨.string x.name,dval x,e0.born⟩:=List.mem_iff_getElem.2 ⟨j,by simpa using lt,by simp⟩
  refine ⟨es.setIfInBounds j ⟨.string x.name,dval x,e0.born⟩,c,?_,⟨?_,?_,?_,?_⟩⟩
  ·intro w hb
   rw[<-hm]
   simp[Instr.mapUpdate,run_underlying ht,MapKept.run_getObj_map hb,run_checkKey hk (k:= .string x.name) trivial,run_findKey hk h1,MapKept.run_setObj_map _ hb,Result.andThen,hj,h3,run_keyThatStays (d:= .string) (k:= .string x.name) trivial]
  ·rw[tl]
   intro y hy
   rcases oth y hy with rfl|⟨hy,_⟩
   ·trivial
   ·exact h.str y hy
  ·rw[tl]
   have hp:=List.pairwise_iff_getElem.1 h.one
   have ej:es.toList[j]=e0:=(List.getElem?_eq_some_iff.1 h2).2
   refine List.pairwise_iff_getElem.2 (fun a b ha hb hab=>?_)
   rw[List.length_set] at ha hb
   have q:=hp a b ha hb hab
   rw[List.getElem_set,List.getElem_set]
   by_cases e1:j=a
   ·subst e1
    rw[ej,h3] at q
    rw[if_pos rfl,if_neg Zo]
    exact q
   ·rw[if_neg e1]
    by_cases e2:j=b
    ·subst e2
     rw[ej,h3] at q
     rw[if_pos rfl]
     exact q
    ·rw[if_neg e2];exact q
  ·rw[tl]
   intro y hy s hs
   rcases oth y hy with rfl|⟨hy,hne⟩
   ·exact J172
   ·rw[findE_last,if_neg (fun hn=>hne (by rw[hs,hn]))]
    exact h.has y hy s hs
  ·rw[tl]
   intro s hs
   have hne:x.name≠s:=fun hn=>hs _ new (by rw[hn])
   rw[findE_last,if_neg hne]
   refine h.all s (fun e he hk=>?_)
   obtain ⟨i,hi,he⟩:=List.mem_iff_getElem.1 he
   by_cases e1:j=i
   ·subst e1
    have ej:es.toList[j]=e0:=(List.getElem?_eq_some_iff.1 h2).2
    rw[ej] at he
    subst he
    rw[h3] at hk
    simp only[Value.string.injEq] at hk
    exact hne hk
   ·exact hs e (List.mem_iff_getElem.2 ⟨i,by simpa using hi,by rw[List.getElem_set,if_neg e1];exact he⟩) hk
end Go.Proofs.YtlibofjbhhdjdaaGreat
namespace Go.Proofs.YtlibofjbhhdjdaaGreat
open Go.RowKit
variable {a:Act} {listed:Array Bool} {ops:Array Oper} {Q:Exit->Act->World->Prop} {fuel i:Nat} {o:Oper} {P:Program} {md:Region.Mode} {α:Type} {w:World} {S:World->Prop}
theorem tk (i:Nat){oi:Oper}{v:Value}{a a':Act}(h:wpAnyH P md ops Q S fuel (listed.setIfInBounds i true) a' w)(hi:ops[i]?= some oi:=by rfl)(hs:Region.noSelect ops=true:=by kernel_rfl)(hf:Region.free md ops listed i=true:=by kernel_rfl)(hr:(Region.ready md ops listed).contains i=true:=by kernel_rfl)(hQ:∀c a w,Q (.panic c) (a.put oi.dst v) w->Q (.panic c) a w:=by exact fun _ _ _ h=>h)(hg:Region.wanted oi (yielded ops a.tmps)=true:=by rfl)(hy:∀w,S w->(execOp a.eval oi).run P w= .ok (.value v) w:=by (intro w hSw;(try dsimp only at hSw);go_simp;try (with_reducible rfl)))(ha:a.put oi.dst v=a':=by (simp only[List.getElem_toArray,List.getElem_cons_succ,List.getElem_cons_zero,Act.put,List.setIfInBounds_toArray,List.set_cons_zero,List.set_cons_succ] <;> rfl))(hS:S w:=by assumption):wpAnyH P md ops Q S (fuel+1) listed a w:=
 wpAnyH_take hi hs hf hr hQ (Or.inl ⟨hg,hy⟩) hS (by rw[ha];exact h)
theorem gA {xs:List α}(h:i < xs.toArray.size):xs.toArray[i]=xs[i]'(by simpa using h):=List.getElem_toArray h
theorem gB (a:α)(bs:List α)(i:Nat)(h:i+1 < (a::bs).length):(a::bs)[i+1]=bs[i]'(Nat.lt_of_succ_lt_succ h):=List.getElem_cons_succ a bs i h
theorem gC (a:α)(bs:List α)(h:0 < (a::bs).length):(a::bs)[0]=a:=List.getElem_cons_zero a bs h
theorem gD (xs:List α)(i:Nat)(a:α):xs.toArray.setIfInBounds i a=(xs.set i a).toArray:=List.setIfInBounds_toArray xs i a
theorem gE {x:α}{xs:List α}{a:α}:(x::xs).set 0 a=a::xs:=List.set_cons_zero
theorem gF {x:α}{xs:List α}{a:α}:(x::xs).set (i+1) a=x::xs.set i a:=List.set_cons_succ
theorem rd (rs:List Nat)(h:AllReadyH P md ops Q S fuel listed a w rs)(h1:Region.ready md ops listed=rs:=by kernel_rfl)(h2:rs≠ []:=by simp):wpAnyH P md ops Q S (fuel+1) listed a w:=wpAnyH_ready h1 h2 h
theorem run_app (w:World)(base:Nat)(t ty e:TypeId)(i:TypeInfo)(z:Value)(size bytes:Nat)(ht:P.underlying t=some (.slice e))(hi:P.info? e=some i)(hz:i.zero=some z)(hsize:i.size=size)(hby:i.bytes=bytes)(hzs:z.cells.size=size)(hsz:0 < size)(v:Value)(n:Nat)(xs:List Value)(hown:w.ownsRow base e size v n xs)(a:Addr)(m c:Nat)(news:List Value)(hl:news.length=m*size)(hnews:∀j u,news[j]?= some u->w.cell? (a.add j)=some u)(h1:∀u∈news,u.oneCell'=true)(hm:0 < m)(h63:n+m<=maxLen)(hbytes:(n+m)*bytes<=140737488355328)(hbase:base<=w.heap.size):
  ∃g cap w',(Builtin.append_ #[t,t] ty #[v,.slice (some a) m c]).run P w= .ok (.slice (some ⟨g,0,none⟩) (n+m) cap) w'/\w'.ownsRow base e size (.slice (some ⟨g,0,none⟩) (n+m) cap) (n+m) (xs++news)/\w.grownBy w' v.ownBlock/\(v.ownBlock=some g\/w.heap.size<=g):=by
 have form:∀{b:Nat} {v':Value} {w':World},w'.ownsRow b e size v' (n+m) (xs++news)->∃g cap,v'= .slice (some ⟨g,0,none⟩) (n+m) cap/\b<=g:=fun h=>by
  rcases h.2 with ⟨_,h0⟩|⟨g,cap,cur,hv,hb,_⟩
  ·omega
  ·exact ⟨g,cap,hv,hb⟩
 have lower:∀{b b':Nat} {v':Value} {w':World},b'<=b->w'.ownsRow b e size v' (n+m) (xs++news)->w'.ownsRow b' e size v' (n+m) (xs++news):=fun hb h=>by
  refine ⟨h.1,?_⟩
  rcases h.2 with h0|⟨g,cap,cur,hv,hg,r⟩
  ·exact .inl h0
  ·exact .inr ⟨g,cap,cur,hv,Nat.le_trans hb hg,r⟩
 rcases hown.2 with ⟨rfl,rfl⟩|⟨g,cap,cur,rfl,hb,hg,hnc,hcm,hcs,htake⟩
 ·obtain rfl:xs= []:=List.eq_nil_of_length_eq_zero (by simpa using hown.1)
  obtain ⟨v',w',hrun,r1,r2,_⟩:=run_append_own (P:=P) w w.heap.size t ty e i z size bytes ht hi hz hsize hby hzs hsz (.slice none 0 0) 0 [] (World.ownsRow_nil w _ e size) a m c news hl hnews h1 h63 hbytes (Nat.le_refl _)
  obtain ⟨g,cap,rfl,hge⟩:=form r1
  exact ⟨g,cap,w',hrun,lower hbase r1,r2,Or.inr hge⟩
 ·by_cases hr:n+m<=cap
  ·obtain ⟨w',hrun,r1,r2⟩:=run_append_fits (P:=P) w base t ty e i size ht hi hsize g n cap xs hown a m c news hl hnews h1 hr
   exact ⟨g,cap,w',hrun,r1,r2,Or.inl rfl⟩
  ·have holds:∀j u,xs[j]?= some u->w.cell? ((⟨g,0,none⟩:Addr).add j)=some u:=fun j u hj=>by
    have hlt:j < xs.length:=(List.getElem?_eq_some_iff.1 hj).1
    rw[Go.WideShapes.add_plain,cell_of_row w g _ cur e (0,0) hg,Nat.zero_add]
    rw[<-htake,List.getElem?_take] at hj
    rw[hown.1] at hlt
    rw[if_pos hlt] at hj
    simpa using hj
   obtain ⟨v',w',hrun,r1,r2⟩:=run_append_arg_grows (P:=P) w t ty e i z size bytes ht hi hz hsize hby hzs hsz ⟨g,0,none⟩ n cap xs hown.1 holds a m c news hl hnews Zo h63 hbytes
   obtain ⟨g',cap',rfl,hge⟩:=form r1
   exact ⟨g',cap',w',hrun,lower hbase r1,⟨r2.os,r2.tape,r2.output,r2.size,fun k hk _=>r2.block k hk J269⟩,Or.inr hge⟩
theorem step_app {K:Act->World->Prop}{E:Prop}(hg:o.guard=none)(s x:Operand)(t:TypeId)(hop:o.op=Op.call {callee:=Callee.builtin Builtin.append,args:= #[s,x],argTypes:= #[t,t]})(base:Nat)(e:TypeId)(i:TypeInfo)(z:Value)(size bytes:Nat)(ht:P.underlying t=some (.slice e))(hi:P.info? e=some i)(hz:i.zero=some z)(hsize:i.size=size)(hby:i.bytes=bytes)(hzs:z.cells.size=size)(hsz:0 < size)(v:Value)(n:Nat)(xs:List Value)(hs:a.eval s=v)(hown:w.ownsRow base e size v n xs)(ad:Addr)(m c:Nat)(news:List Value)(hx:a.eval x= .slice (some ad) m c)(hl:news.length=m*size)(hnews:∀j u,news[j]?= some u->w.cell? (ad.add j)=some u)(h1:∀u∈news,u.oneCell'=true)(hm:0 < m)(h63:n+m<=maxLen)(hbytes:(n+m)*bytes<=140737488355328)(hbase:base<=w.heap.size)(hK:∀g cap w',w'.ownsRow base e size (.slice (some ⟨g,0,none⟩) (n+m) cap) (n+m) (xs++news)->w.grownBy w' v.ownBlock->(v.ownBlock=some g\/w.heap.size<=g)->K (a.put o.dst (.slice (some ⟨g,0,none⟩) (n+m) cap)) w'):
  if Region.wanted o (yielded ops a.tmps)=true then Oper.wp P o a w K Q else E:=by
 have hw:Region.wanted o (yielded ops a.tmps)=true:=by simp[Region.wanted,hg]
 rw[if_pos hw]
 obtain ⟨g,cap,w',hrun,r1,r2,r3⟩:=run_app (P:=P) w base t o.type e i z size bytes ht hi hz hsize hby hzs hsz v n xs hown ad m c news hl hnews h1 hm h63 hbytes hbase
 unfold Oper.wp
 simp[execOp,hop,resolve,invoke,builtin,hs,hx,hrun,Result.andThen]
 exact hK g cap w' r1 r2 r3
theorem wpList_app (w:World){rest:List Oper}(hg:o.guard=none)(s x:Operand)(t:TypeId)(hop:o.op=Op.call {callee:=Callee.builtin Builtin.append,args:= #[s,x],argTypes:= #[t,t]})(base:Nat)(e:TypeId)(i:TypeInfo)(z:Value)(size bytes:Nat)(ht:P.underlying t=some (.slice e))(hi:P.info? e=some i)(hz:i.zero=some z)(hsize:i.size=size)(hby:i.bytes=bytes)(hzs:z.cells.size=size)(hsz:0 < size)(v:Value)(n:Nat)(xs:List Value)(hs:a.eval s=v)(hown:w.ownsRow base e size v n xs)(ad:Addr)(m c:Nat)(news:List Value)(hx:a.eval x= .slice (some ad) m c)(hl:news.length=m*size)(hnews:∀j u,news[j]?= some u->w.cell? (ad.add j)=some u)(h1:∀u∈news,u.oneCell'=true)(hm:0 < m)(h63:n+m<=maxLen)(hbytes:(n+m)*bytes<=140737488355328)(hbase:base<=w.heap.size)(hK:∀g cap w',w'.ownsRow base e size (.slice (some ⟨g,0,none⟩) (n+m) cap) (n+m) (xs++news)->w.grownBy w' v.ownBlock->(v.ownBlock=some g\/w.heap.size<=g)->wpList P ops Q rest (a.put o.dst (.slice (some ⟨g,0,none⟩) (n+m) cap)) w'):
  wpList P ops Q (o::rest) a w:=by
 refine wpList_plain hg fun K hK'=>?_
 obtain ⟨g,cap,w',hrun,r1,r2,r3⟩:=run_app (P:=P) w base t o.type e i z size bytes ht hi hz hsize hby hzs hsz v n xs hown ad m c news hl hnews h1 hm h63 hbytes hbase
 unfold Oper.wp
 simp[execOp,hop,resolve,invoke,builtin,hs,hx,hrun,Result.andThen]
 exact hK' _ _ (hK g cap w' r1 r2 r3)
end Go.Proofs.YtlibofjbhhdjdaaGreat
namespace Go.Proofs.YtlibofjbhhdjdaaGreat
open Go.RowKit
attribute [local go_sem] rsf
theorem info_wrong:(Tryz.prog.info? 39).map (fun i=>(i.zero,i.size,i.bytes))=some (some (.agg #[.int .i64 0,.int .i64 0]),2,16):=by kernel_rfl
theorem ownsRow_kept {p:Nat->Prop}{w w':World}(hk:Kept p w w'){base:Nat}{e:TypeId}{size:Nat}{v:Value}{n:Nat}{xs:List Value}(hp:∀g,v.ownBlock=some g->p g)(h:w.ownsRow base e size v n xs):w'.ownsRow base e size v n xs:=by
 refine ⟨h.1,?_⟩
 rcases h.2 with hn|⟨g,cap,cur,rfl,hb,hgg,rest⟩
 ·exact .inl hn
 ·exact .inr ⟨g,cap,cur,rfl,hb,(hk g (hp g rfl)).trans hgg,rest⟩
theorem fault_any (wp base n:Nat)(c0 c1 c2 c3 c4 c5 c6 c7 c8 c9 c10 c11:Value)(xs:List Value)(code part:Int)(w:World)(B:Blk w wp 51 #[c0,c1,c2,c3,c4,c5,c6,c7,c8,c9,c10,c11])(hx:w.ownsRow base 39 2 c7 n xs)(hn:n<=1048576)(hb:base<=w.heap.size)(hne:c7.ownBlock≠some wp):
  Calls Tryz.prog 67 #[.pointer (some ⟨wp,0,none⟩),.int .i64 code,.int .i64 part] w fun e w'=>e= .returned (.tuple #[])/\∃g cap,Blk w' wp 51 #[c0,c1,c2,c3,c4,c5,c6,.slice (some ⟨g,0,none⟩) (n+1:Nat) cap,c8,c9,c10,c11]/\w'.ownsRow base 39 2 (.slice (some ⟨g,0,none⟩) (n+1:Nat) cap) (n+1) (xs++ [.int .i64 code,.int .i64 part])/\w.heap.size<=w'.heap.size/\Kept (fun k=>k < w.heap.size/\k≠wp/\some k≠c7.ownBlock) w w'/\(c7.ownBlock=some g\/w.heap.size<=g):=by
 have b7:w.cell? ⟨wp,7,none⟩=some c7:=by rw[B.cell];rfl
 have bf:=B.free
 have zb:=B.lt
 go_enter Tryz.func67,Tryz.ntmps67
 obtain ⟨i0,hi,hz0,hz1,hz2⟩:=info_parts info_wrong
 have N:=Blk.new w 39 #[.int .i64 code,.int .i64 part]
 go_wp2_with (first|(at_builtin;refine wpList_app _ rfl (.tmp 10) (.tmp 14) 48 rfl base 39 i0 _ 2 16 Tryz.underlying48 hi hz0 hz1 hz2 rfl Zb c7 n xs rfl (hx.alloc _) ⟨w.heap.size,0,none⟩ 1 1 [.int .i64 code,.int .i64 part] rfl rfl (fun j u hj=>by rw[Go.WideShapes.add_plain,N.cell,Nat.zero_add];simpa using hj) J262 Zb Zm Zo Zj ?_;intro g cap w' hown hgrow hwhere;have B2:Blk w' wp 51 #[c0,c1,c2,c3,c4,c5,c6,c7,c8,c9,c10,c11]:=(hgrow.block wp Zj (fun e=>hne e.symm)).trans (B.onw (Onw.alloc _ _));have bf2:=B2.free;have b72:w'.cell? ⟨wp,7,none⟩=some c7:=by rw[B2.cell];rfl))
 have B3:=B2.set 7 (.slice (some ⟨g,0,none⟩) (n+1:Nat) cap)
 simp only[List.setIfInBounds_toArray,List.set_cons_zero,List.set_cons_succ] at B3
 have hg:g≠wp:=by
  rcases hwhere with h|h
  ·intro e;exact hne (by rw[h,e])
  ·simp only[World.size_alloc] at h;omega
 have KS:Kept (·≠wp) w' (w'.setCell ⟨wp,7,none⟩ (.slice (some ⟨g,0,none⟩) (n+1:Nat) cap)):=ksc _ _ _ _
 have hz:=hgrow.size
 simp only[World.size_alloc] at hz
 refine bodyPost_end (v:= .tuple #[]) (by simp[results,Tryz.results67,go_sem]) rfl ⟨rfl,g,cap,B3,ownsRow_kept KS (fun x hx=>by cases hx;exact hg) hown,by simp only[World.size_setCell];omega,fun k hk=>?_,?_⟩
 ·exact (KS k hk.2.1).trans ((hgrow.block k J285 hk.2.2).trans (heap_alloc_old w _ hk.1))
 ·rcases hwhere with h|h
  ·exact Or.inl h
  ·exact Or.inr (by simp only[World.size_alloc] at h;omega)
end Go.Proofs.YtlibofjbhhdjdaaGreat
namespace Go.Proofs.YtlibofjbhhdjdaaGreat
open Go.RowKit
variable {wp:Nat} {R:Nat->List (List Value)} {own:Nat->Nat} {V:Nat->Value} {tv:Value} {w w':World}
def rowT (j:Nat):TypeId:=
 if j=1 then 155 else if j=2 then 75 else if j=3 then 73 else if j=4 then 58 else if j=5 then 157 else
 if j=6 then 151 else if j=7 then 39 else if j=8 then 93 else 151
def rowZ (j:Nat):Nat:=
 if j=1 then 12 else if j=2 then 9 else if j=3 then 7 else if j=4 then 4 else if j=5 then 7 else if j=6 then 2 else if j=7 then 2 else if j=8 then 3 else 2
structure RowAt (w:World) (base:Nat) (own:Nat->Nat) (id:Nat) (e:TypeId) (z:Nat) (v:Value) (els:List (List Value)):Prop where
 row:w.ownsRow base e z v els.length els.flatten
 len:∀x∈els,x.length=z
 mine:∀g,v.ownBlock=some g->own g=id
theorem RowAt.kept {base:Nat}{own own':Nat->Nat}{id:Nat}{e:TypeId}{z:Nat}{v:Value}{els:List (List Value)}(h:RowAt w base own id e z v els){p:Nat->Prop}(hk:Kept p w w')(hp:∀g,v.ownBlock=some g->p g)(ho:∀k,k < w.heap.size->own' k=own k):RowAt w' base own' id e z v els:=
 ⟨ownsRow_kept hk hp h.row,h.len,fun g hg=>by rw[ho g (h.row.lt g hg).2];exact h.mine g hg⟩
structure Wk (w0 w:World) (wp:Nat) (tv:Value) (own:Nat->Nat) (V:Nat->Value) (R:Nat->List (List Value)):Prop where
 ov:Onw w0 w
 wpb:w0.heap.size<=wp
 blk:Blk w wp 51 #[tv,V 1,V 2,V 3,V 4,V 5,V 6,V 7,V 8,V 9,V 10,V 11]
 wpo:own wp=1
 low:∀k,k < w0.heap.size->own k=0
 high:∀k,w.heap.size<=k->own k=0
 rows:∀j,1<=j->j<=11->RowAt w w0.heap.size own (j+1) (rowT j) (rowZ j) (V j) (R j)
structure Fr (own own':Nat->Nat) (w w':World):Prop where
 size:w.heap.size<=w'.heap.size
 tags:∀k,k < w.heap.size->own' k=own k
 kept:Kept (fun k=>k < w.heap.size/\own k=0) w w'
theorem Fr.refl (own:Nat->Nat)(w:World):Fr own own w w:=⟨Nat.le_refl _,fun _ _=>rfl,Kept.refl _ _⟩
theorem Fr.trans {o1 o2 o3:Nat->Nat}{a b c:World}(h:Fr o1 o2 a b)(k:Fr o2 o3 b c):Fr o1 o3 a c:=
 ⟨Nat.le_trans h.size k.size,fun x hx=>(k.tags x (Nat.lt_of_lt_of_le hx h.size)).trans (h.tags x hx),fun x hx=>(k.kept x ⟨Nat.lt_of_lt_of_le hx.1 h.size,by rw[h.tags x hx.1];exact hx.2⟩).trans (h.kept x hx)⟩
theorem Fr.onw (h:Onw w w'):Fr own own w w':=⟨h.size,fun _ _=>rfl,fun k hk=>h.block k hk.1⟩
theorem Wk.onw {w0 w w':World}(h:Wk w0 w wp tv own V R)(o:Onw w w'):Wk w0 w' wp tv own V R:=
 ⟨h.ov.trans o,h.wpb,h.blk.onw o,h.wpo,h.low,fun k hk=>h.high k (Nat.le_trans o.size hk),fun j j1 j2=>(h.rows j j1 j2).kept (p:=fun k=>k < w.heap.size) (fun k hk=>o.block k hk) (fun g hg=>((h.rows j j1 j2).row.lt g hg).2) (fun _ _=>rfl)⟩
def bump (own:Nat->Nat) (n g id:Nat):Nat->Nat:=fun k=>if k < n then own k else if k=g then id else 0
def setV (V:Nat->Value) (j:Nat) (v:Value):Nat->Value:=fun k=>if k=j then v else V k
def pushR (R:Nat->List (List Value)) (j:Nat) (x:List Value):Nat->List (List Value):=fun k=>if k=j then R k++ [x] else R k
theorem Wk.push {w0 w w1 w2:World}(h:Wk w0 w wp tv own V R){j:Nat}(j1:1<=j)(j2:j<=11){x:List Value}{g cap:Nat}(hx:x.length=rowZ j)(hw1:Onw w w1)(hown:w2.ownsRow w0.heap.size (rowT j) (rowZ j) (.slice (some ⟨g,0,none⟩) ((R j).length+1:Nat) cap) ((R j).length+1) ((R j).flatten++x))(hgrow:w1.grownBy w2 (V j).ownBlock)(hwh:(V j).ownBlock=some g\/w1.heap.size<=g):
  Wk w0 (w2.setCell ⟨wp,j,none⟩ (.slice (some ⟨g,0,none⟩) ((R j).length+1:Nat) cap)) wp tv (bump own w.heap.size g (j+1)) (setV V j (.slice (some ⟨g,0,none⟩) ((R j).length+1:Nat) cap)) (pushR R j x)
  /\Fr own (bump own w.heap.size g (j+1)) w (w2.setCell ⟨wp,j,none⟩ (.slice (some ⟨g,0,none⟩) ((R j).length+1:Nat) cap)):=by
 have wlt:=h.blk.lt
 have hsz:w.heap.size<=w1.heap.size:=hw1.size
 have hgs:=hgrow.size
 have hrj:=h.rows j j1 j2
 have hVj:∀k,(V j).ownBlock=some k->own k=j+1/\w0.heap.size<=k/\k < w.heap.size:=fun k hk=>⟨hrj.mine k hk,hrj.row.lt k hk⟩
 have hgne:g≠wp:=by
  rcases hwh with e|e
  ·intro e2;have:=(hVj g e).1;rw[e2,h.wpo] at this;omega
  ·omega
 -- what is kept by the three steps
 have K1:Kept (fun k=>k < w.heap.size/\some k≠(V j).ownBlock/\k≠wp) w (w2.setCell ⟨wp,j,none⟩ (.slice (some ⟨g,0,none⟩) ((R j).length+1:Nat) cap)):=fun k hk=>
  ((ksc w2 wp j _) k hk.2.2).trans ((hgrow.block k Zo hk.2.1).trans (hw1.block k hk.1))
 have hfr:Fr own (bump own w.heap.size g (j+1)) w (w2.setCell ⟨wp,j,none⟩ (.slice (some ⟨g,0,none⟩) ((R j).length+1:Nat) cap)):=by
  refine ⟨by simp only[World.size_setCell];omega,fun k hk=>by unfold bump;rw[if_pos hk],fun k hk=>K1 k ⟨hk.1,fun e=>?_,fun e=>?_⟩⟩
  ·have:=(hVj k e.symm).1;omega
  ·have:=h.wpo;rw[<-e] at this;omega
 refine ⟨?_,hfr⟩
 have lt0:w0.heap.size<=w.heap.size:=h.ov.size
 have eqB:∀k,k < w.heap.size->bump own w.heap.size g (j+1) k=own k:=fun k hk=>by unfold bump;rw[if_pos hk]
 refine ⟨?_,h.wpb,?_,by rw[eqB wp wlt];exact h.wpo,fun k hk=>by rw[eqB k Zo];exact h.low k hk,fun k hk=>?_,fun i i1 i2=>?_⟩
 ·exact bset (Below.grown (h.ov.trans hw1) hgrow Zo (fun k hk=>(hVj k hk).2.1)) h.wpb _
 ·have B2:Blk w2 wp 51 #[tv,V 1,V 2,V 3,V 4,V 5,V 6,V 7,V 8,V 9,V 10,V 11]:=(hgrow.block wp Zo (fun e=>by have:=(hVj wp e.symm).1;have:=h.wpo;omega)).trans (h.blk.onw hw1)
  have B3:=B2.set j (.slice (some ⟨g,0,none⟩) ((R j).length+1:Nat) cap)
  exact J129
 ·have hg2:=(hown.lt g rfl).2
  simp only[World.size_setCell] at hk
  unfold bump;rw[if_neg Zo,if_neg Zo]
 ·by_cases e:i=j
  ·subst e
   have e1:setV V i (.slice (some ⟨g,0,none⟩) ((R i).length+1:Nat) cap) i= .slice (some ⟨g,0,none⟩) ((R i).length+1:Nat) cap:=if_pos rfl
   have e2:pushR R i x i=R i++ [x]:=if_pos rfl
   rw[e1,e2]
   refine ⟨?_,fun y hy=>?_,fun k hk=>?_⟩
   ·have:=ownsRow_kept (ksc w2 wp i (.slice (some ⟨g,0,none⟩) ((R i).length+1:Nat) cap)) (fun k hk=>by cases hk;exact hgne) hown
    exact J140
   ·rcases List.mem_append.1 hy with hy|hy
    ·exact hrj.len y hy
    ·rw[List.mem_singleton.1 hy];exact hx
   ·obtain rfl:g=k:=by simpa[Value.ownBlock] using hk
    rcases hwh with e|e
    ·rw[eqB g (hVj g e).2.2];exact (hVj g e).1
    ·exact J164
  ·have e1:setV V j (.slice (some ⟨g,0,none⟩) ((R j).length+1:Nat) cap) i=V i:=if_neg e
   have e2:pushR R j x i=R i:=if_neg e
   rw[e1,e2]
   have hi:=h.rows i i1 i2
   refine hi.kept K1 (fun k hk=>⟨(hi.row.lt k hk).2,fun e3=>?_,fun e3=>?_⟩) eqB
   ·have a:=(hVj k e3.symm).1;have b:=hi.mine k hk;omega
   ·have a:=hi.mine k hk;rw[e3,h.wpo] at a;omega
end Go.Proofs.YtlibofjbhhdjdaaGreat
