import Derived.Test.YtlibofjbhhdjdaaGreatQ
import Derived.Test.YtlibofjbhhdjdaaGreatRows
set_option linter.unusedSimpArgs false
set_option maxRecDepth 100000
set_option maxHeartbeats 16000000
namespace Go.Proofs.YtlibofjbhhdjdaaGreat
open Go.RowKit
variable {v:Value} {w w':World}
/- Plain data, and where it lies in memory: what a unit is, whatever the addresses. -/
structure ND where
 kind:Int
 line:Int
 op:Int
 num:Int
 flt:Nat
 str:ByteArray
 nr:Nat
 rf:Nat->Int
 nk:Nat
 kd:Nat->Int
structure NM extends ND where
 ra:Option Addr
 rc:Nat
 ka:Option Addr
 kc:Nat
structure FD where
 name:ByteArray
 line:Int
 params:Int
 rest:Bool
 nv:Nat
 vr:Nat->ByteArray
 nu:Nat
 ul:Nat->Bool
 ui:Nat->Int
 nn:Nat
 nd:Nat->ND
structure FM where
 name:ByteArray
 line:Int
 params:Int
 rest:Bool
 nv:Nat
 vr:Nat->ByteArray
 nu:Nat
 ul:Nat->Bool
 ui:Nat->Int
 nn:Nat
 nm:Nat->NM
 va:Option Addr
 vc:Nat
 ua:Option Addr
 uc:Nat
 na:Option Addr
 nc:Nat
def FM.toFD (m:FM):FD:=⟨m.name,m.line,m.params,m.rest,m.nv,m.vr,m.nu,m.ul,m.ui,m.nn,fun i=>(m.nm i).toND⟩
structure UD where
 nf:Nat
 fn:Nat->FD
structure UM where
 nf:Nat
 fm:Nat->FM
 fa:Option Addr
 fc:Nat
def UM.toUD (m:UM):UD:=⟨m.nf,fun i=>(m.fm i).toFD⟩
def NM.val (m:NM):Array Value:= #[.int .i64 m.kind,.int .i64 m.line,.int .i64 m.op,.int .i64 m.num,.float .f64 m.flt,.string m.str,.slice m.ra m.nr m.rc,.slice m.ka m.nk m.kc]
def FM.val (m:FM):Array Value:= #[.string m.name,.int .i64 m.line,.int .i64 m.params,.bool m.rest,.slice m.va m.nv m.vc,.slice m.ua m.nu m.uc,.slice m.na m.nn m.nc]
def Lies (w:World) (a:Option Addr) (n E:Nat) (f:Nat->Nat->Value):Prop:=
 0 < n->∃b off,a=some ⟨b,off,none⟩/\∀i,i < n->∀j,j < E->w.cell? ⟨b,off+i*E+j,none⟩=some (f i j)
def IntsAt (w:World) (a:Option Addr) (n:Nat) (f:Nat->Int):Prop:=
 0 < n->∃b off,a=some ⟨b,off,none⟩/\∀i,i < n->w.cell? ⟨b,off+i,none⟩=some (.int .i64 (f i))
def StrsAt (w:World) (a:Option Addr) (n:Nat) (f:Nat->ByteArray):Prop:=
 0 < n->∃b off,a=some ⟨b,off,none⟩/\∀i,i < n->w.cell? ⟨b,off+i,none⟩=some (.string (f i))
def UpsAt (w:World) (a:Option Addr) (n:Nat) (l:Nat->Bool) (f:Nat->Int):Prop:=
 0 < n->∃b off,a=some ⟨b,off,none⟩/\∀i,i < n->w.cell? ⟨b,off+i*2,none⟩=some (.bool (l i))/\w.cell? ⟨b,off+i*2+1,none⟩=some (.int .i64 (f i))
def NM.At (w:World) (m:NM):Prop:=IntsAt w m.ra m.nr m.rf/\IntsAt w m.ka m.nk m.kd
structure NodeCells (w:World) (b o:Nat) (m:NM):Prop where
 c0:w.cell? ⟨b,o,none⟩=some (.int .i64 m.kind)
 c1:w.cell? ⟨b,o+1,none⟩=some (.int .i64 m.line)
 c2:w.cell? ⟨b,o+2,none⟩=some (.int .i64 m.op)
 c3:w.cell? ⟨b,o+3,none⟩=some (.int .i64 m.num)
 c4:w.cell? ⟨b,o+4,none⟩=some (.float .f64 m.flt)
 c5:w.cell? ⟨b,o+5,none⟩=some (.string m.str)
 c6:w.cell? ⟨b,o+6,none⟩=some (.slice m.ra m.nr m.rc)
 c7:w.cell? ⟨b,o+7,none⟩=some (.slice m.ka m.nk m.kc)
def NodesAt (w:World) (a:Option Addr) (n:Nat) (nm:Nat->NM):Prop:=
 (0 < n->∃b off,a=some ⟨b,off,none⟩/\∀i,i < n->NodeCells w b (off+i*8) (nm i))/\∀i,i < n->(nm i).At w
def FM.At (w:World) (m:FM):Prop:=StrsAt w m.va m.nv m.vr/\UpsAt w m.ua m.nu m.ul m.ui/\NodesAt w m.na m.nn m.nm
structure FnCells (w:World) (b o:Nat) (m:FM):Prop where
 c0:w.cell? ⟨b,o,none⟩=some (.string m.name)
 c1:w.cell? ⟨b,o+1,none⟩=some (.int .i64 m.line)
 c2:w.cell? ⟨b,o+2,none⟩=some (.int .i64 m.params)
 c3:w.cell? ⟨b,o+3,none⟩=some (.bool m.rest)
 c4:w.cell? ⟨b,o+4,none⟩=some (.slice m.va m.nv m.vc)
 c5:w.cell? ⟨b,o+5,none⟩=some (.slice m.ua m.nu m.uc)
 c6:w.cell? ⟨b,o+6,none⟩=some (.slice m.na m.nn m.nc)
def FnsAt (w:World) (a:Option Addr) (n:Nat) (fm:Nat->FM):Prop:=
 (0 < n->∃b off,a=some ⟨b,off,none⟩/\∀i,i < n->FnCells w b (off+i*7) (fm i))/\∀i,i < n->(fm i).At w
def UM.At (w:World) (m:UM):Prop:=FnsAt w m.fa m.nf m.fm
abbrev Onw (w w':World):Prop:=Below w.heap.size w w'
theorem clt {b o:Nat}(h:w.cell? ⟨b,o,none⟩=some v):b < w.heap.size:=by
 by_cases hb:b < w.heap.size
 ·exact hb
 ·have:w.heap[b]?= none:=Zj
  simp[World.cell?,this] at h
theorem con (hb:Onw w w'){b o:Nat}(h:w.cell? ⟨b,o,none⟩=some v):w'.cell? ⟨b,o,none⟩=some v:=by
 rw[<-h];exact hb.cell (clt h)
theorem IntsAt.onw (hb:Onw w w'){a n f}(h:IntsAt w a n f):IntsAt w' a n f:=fun h0=>by
 obtain ⟨b,off,ha,hc⟩:=h h0
 exact ⟨b,off,ha,fun i hi=>con hb (hc i hi)⟩
theorem StrsAt.onw (hb:Onw w w'){a n f}(h:StrsAt w a n f):StrsAt w' a n f:=fun h0=>by
 obtain ⟨b,off,ha,hc⟩:=h h0
 exact ⟨b,off,ha,fun i hi=>con hb (hc i hi)⟩
theorem UpsAt.onw (hb:Onw w w'){a n l f}(h:UpsAt w a n l f):UpsAt w' a n l f:=fun h0=>by
 obtain ⟨b,off,ha,hc⟩:=h h0
 exact ⟨b,off,ha,fun i hi=>⟨con hb (hc i hi).1,con hb (hc i hi).2⟩⟩
theorem NM.At.onw (hb:Onw w w'){m:NM}(h:m.At w):m.At w':=⟨h.1.onw hb,h.2.onw hb⟩
theorem NodeCells.onw (hb:Onw w w'){b o m}(h:NodeCells w b o m):NodeCells w' b o m:=
 ⟨con hb h.c0,con hb h.c1,con hb h.c2,con hb h.c3,con hb h.c4,con hb h.c5,con hb h.c6,con hb h.c7⟩
theorem NodesAt.onw (hb:Onw w w'){a n nm}(h:NodesAt w a n nm):NodesAt w' a n nm:=
 ⟨fun h0=>by obtain ⟨b,off,ha,hc⟩:=h.1 h0;exact ⟨b,off,ha,fun i hi=>(hc i hi).onw hb⟩,fun i hi=>(h.2 i hi).onw hb⟩
theorem FM.At.onw (hb:Onw w w'){m:FM}(h:m.At w):m.At w':=⟨h.1.onw hb,h.2.1.onw hb,h.2.2.onw hb⟩
theorem FnCells.onw (hb:Onw w w'){b o m}(h:FnCells w b o m):FnCells w' b o m:=
 ⟨con hb h.c0,con hb h.c1,con hb h.c2,con hb h.c3,con hb h.c4,con hb h.c5,con hb h.c6⟩
theorem FnsAt.onw (hb:Onw w w'){a n fm}(h:FnsAt w a n fm):FnsAt w' a n fm:=
 ⟨fun h0=>by obtain ⟨b,off,ha,hc⟩:=h.1 h0;exact ⟨b,off,ha,fun i hi=>(hc i hi).onw hb⟩,fun i hi=>(h.2 i hi).onw hb⟩
theorem UM.At.onw (hb:Onw w w'){m:UM}(h:m.At w):m.At w':=FnsAt.onw hb h
theorem Onw.refl (w:World):Onw w w:=Below.refl _ _
theorem Onw.trans {a b c:World}(h:Onw a b)(k:Onw b c):Onw a c:=Below.trans h (Below.mono k h.size)
theorem Onw.alloc (w:World)(o:Obj):Onw w (w.alloc o):=(Below.refl _ _).alloc (Nat.le_refl _) _
structure PD where
 kind:Int
 frm:Int
 tto:Int
 line:Int
 op:Int
 num:Int
 flt:Nat
 text:ByteArray
 nn:Nat
 nm:Nat->ByteArray
 nk:Nat
 kd:Nat->Int
structure PM extends PD where
 na:Option Addr
 nc:Nat
 ka:Option Addr
 kc:Nat
structure TD where
 np:Nat
 pt:Nat->PD
structure TM where
 np:Nat
 pm:Nat->PM
 pa:Option Addr
 pc:Nat
def TM.toTD (m:TM):TD:=⟨m.np,fun i=>(m.pm i).toPD⟩
def PM.val (m:PM):Array Value:= #[.int .i64 m.kind,.int .i64 m.frm,.int .i64 m.tto,.int .i64 m.line,.int .i64 m.op,.int .i64 m.num,.float .f64 m.flt,.string m.text,.slice m.na m.nn m.nc,.slice m.ka m.nk m.kc]
def PM.At (w:World) (m:PM):Prop:=StrsAt w m.na m.nn m.nm/\IntsAt w m.ka m.nk m.kd
structure PartCells (w:World) (b o:Nat) (m:PM):Prop where
 c0:w.cell? ⟨b,o,none⟩=some (.int .i64 m.kind)
 c1:w.cell? ⟨b,o+1,none⟩=some (.int .i64 m.frm)
 c2:w.cell? ⟨b,o+2,none⟩=some (.int .i64 m.tto)
 c3:w.cell? ⟨b,o+3,none⟩=some (.int .i64 m.line)
 c4:w.cell? ⟨b,o+4,none⟩=some (.int .i64 m.op)
 c5:w.cell? ⟨b,o+5,none⟩=some (.int .i64 m.num)
 c6:w.cell? ⟨b,o+6,none⟩=some (.float .f64 m.flt)
 c7:w.cell? ⟨b,o+7,none⟩=some (.string m.text)
 c8:w.cell? ⟨b,o+8,none⟩=some (.slice m.na m.nn m.nc)
 c9:w.cell? ⟨b,o+9,none⟩=some (.slice m.ka m.nk m.kc)
def PartsAt (w:World) (a:Option Addr) (n:Nat) (pm:Nat->PM):Prop:=
 (0 < n->∃b off,a=some ⟨b,off,none⟩/\∀i,i < n->PartCells w b (off+i*10) (pm i))/\∀i,i < n->(pm i).At w
def TM.At (w:World) (m:TM):Prop:=PartsAt w m.pa m.np m.pm
theorem PM.At.onw (hb:Onw w w'){m:PM}(h:m.At w):m.At w':=⟨h.1.onw hb,h.2.onw hb⟩
theorem PartCells.onw (hb:Onw w w'){b o m}(h:PartCells w b o m):PartCells w' b o m:=
 ⟨con hb h.c0,con hb h.c1,con hb h.c2,con hb h.c3,con hb h.c4,con hb h.c5,con hb h.c6,con hb h.c7,con hb h.c8,con hb h.c9⟩
theorem PartsAt.onw (hb:Onw w w'){a n pm}(h:PartsAt w a n pm):PartsAt w' a n pm:=
 ⟨fun h0=>by obtain ⟨b,off,ha,hc⟩:=h.1 h0;exact ⟨b,off,ha,fun i hi=>(hc i hi).onw hb⟩,fun i hi=>(h.2 i hi).onw hb⟩
theorem TM.At.onw (hb:Onw w w'){m:TM}(h:m.At w):m.At w':=PartsAt.onw hb h
abbrev XA (m:PM) (p:Int) (k:Option Addr) (n c:Nat):Array Value:= #[.int .i64 p,.int .i64 m.kind,.int .i64 m.frm,.int .i64 m.tto,.int .i64 m.line,.int .i64 m.op,.int .i64 m.num,.float .f64 m.flt,.string m.text,.slice m.na m.nn m.nc,.slice m.ka m.nk m.kc,.slice k n c]
def sumTo (f:Nat->Nat):Nat->Nat
 |0=>0
 |k+1=>sumTo f k+f k
def PM.sz (m:PM):Nat:=m.text.size+(m.nn+sumTo (fun i=>(m.nm i).size) m.nn)+m.nk
def TM.sz (m:TM):Nat:=m.np+sumTo (fun i=>(m.pm i).sz) m.np
def PM.Reach (m:PM):Prop:=m.text.size<=140737488351232/\m.nn<=140737488351232/\m.nk<=140737488351232/\∀i,i < m.nn->(m.nm i).size<=140737488351232
theorem szIntS_any (a:Option Addr)(n c:Nat)(left:Int)(w:World)(h0:0<=left)(h1:left<=1048576)(hn:n<=140737488351232):
  Calls Tryz.prog 36 #[.slice a n c,.int .i64 left] w fun e w'=>∃r:Int,e= .returned (.int .i64 r)/\w'=w/\(r= -1\/(0<=r/\r=left-n)):=by
 go_enter Tryz.func36,Tryz.ntmps36
 go_wp2
 all_goals go_ret
 ·exact ⟨_,rfl,rfl,.inl rfl⟩
 ·exact ⟨_,rfl,rfl,.inr ⟨by omega,rfl⟩⟩
theorem szStringS_any (a : Option Addr)(n c : Nat)(f : Nat -> ByteArray)(left : Int)(w : World)(h0 : 0 <= left)(h1 : left <= 1048576)(hn : n <= 140737488351232)(hs : ∀ i, i < n -> (f i).size <= 140737488351232)(ha : StrsAt w a n f):
    Calls Tryz.prog 35 #[.slice a n c, .int .i64 left] w fun e w' => ∃ r : Int, e = .returned (.int .i64 r) /\ w' = w /\ (r = -1 \/ (0 <= r /\ r = left - (n + sumTo (fun i => (f i).size) n : Nat))) := by
  go_enter Tryz.func35, Tryz.ntmps35
  go_wp2
  · go_ret
    exact ⟨_, rfl, rfl, .inl rfl⟩
  · go_loop [1, 5] (fun l i => ∃ k : Nat, k <= n /\ i = .int .i64 k /\ ∃ r : Int, l = .int .i64 r /\ 0 <= r /\ r = left - (n + sumTo (fun i => (f i).size) k : Nat)) (fun _ i => n - (intOf i).toNat)
    case atStart => exact ⟨0, Nat.zero_le _, rfl, _, rfl, by omega, by simp [sumTo]⟩
    case round =>
      obtain ⟨k, hk, rfl, r, rfl, hr0, hr⟩ := hrel
      have HR : Hid _ := hr
      have : r <= 1048576 := Zo
      clear hr
      by_cases hlt : k < n
      · obtain ⟨b, off, rfl, hc⟩ := ha Zo
        have hck := hc k hlt
        have hsk := hs k hlt
        clear hc hs
        go_wp2
        · go_ret
          exact ⟨_, rfl, rfl, .inl rfl⟩
        · go_round
          case rel => exact ⟨k + 1, by omega, by go_num, _, rfl, by omega, by have := HR.out; simp only [sumTo]; omega⟩
          case measure => simp [intOf]; omega
      · go_wp2
        go_ret
        exact ⟨_, rfl, rfl, .inr ⟨hr0, by have := HR.out; have : k = n := Zo
                                          subst this; assumption⟩⟩
theorem szPart_any (m:PM)(left:Int)(w:World)(h0:0<=left)(h1:left<=1048576)(hm:m.Reach)(ha:m.At w):
  Calls Tryz.prog 22 #[.agg #[.int .i64 m.kind,.int .i64 m.frm,.int .i64 m.tto,.int .i64 m.line,.int .i64 m.op,.int .i64 m.num,.float .f64 m.flt,.string m.text,.slice m.na m.nn m.nc,.slice m.ka m.nk m.kc],.int .i64 left] w fun e w'=>∃r:Int,e= .returned (.int .i64 r)/\Onw w w'/\(r= -1\/(0<=r/\r=left-m.sz)):=by
 obtain ⟨g1,g2,g3,g4⟩:=hm
 obtain ⟨a1,a2⟩:=ha
 have G4:Hid _:=g4
 have A1:Hid _:=a1
 clear g4 a1 a2
 go_enter Tryz.func22,Tryz.ntmps22
 go_wp2_with fail
 ·exact J177
 ·refine (szStringS_any _ _ _ m.nm _ _ Zo Zo g2 G4.out (StrsAt.onw (Onw.alloc _ _) A1.out)).mono ?_
  rintro e w1 ⟨r1,rfl,rfl,(rfl|⟨p1,q1⟩)⟩
  ·go_wp2_with fail
   exact J177
  ·have Q1:Hid _:=q1
   have:r1<=1048576:=Zo
   clear q1
   go_wp2_with fail
   refine (szIntS_any _ _ _ _ _ Zo Zo g3).mono ?_
   rintro e w1 ⟨r2,rfl,rfl,(rfl|⟨p2,q2⟩)⟩
   ·go_wp2_with fail
    exact J177
   ·have Q2:Hid _:=q2
    clear q2
    go_wp2_with fail
    go_ret
    exact ⟨_,rfl,Onw.alloc _ _,.inr ⟨p2,by have:=Q1.out;have:=Q2.out;unfold PM.sz;omega⟩⟩
theorem szPartS_any (a : Option Addr)(n c : Nat)(nm : Nat -> PM)(left : Int)(w : World)(h0 : 0 <= left)(h1 : left <= 1048576)(hn : n <= 140737488351232)(hs : ∀ i, i < n -> (nm i).Reach)(ha : PartsAt w a n nm):
    Calls Tryz.prog 13 #[.slice a n c, .int .i64 left] w fun e w' => ∃ r : Int, e = .returned (.int .i64 r) /\ Onw w w' /\ (r = -1 \/ (0 <= r /\ r = left - (n + sumTo (fun i => (nm i).sz) n : Nat))) := by
  go_enter Tryz.func13, Tryz.ntmps13
  go_wp2
  · go_ret
    exact ⟨_, rfl, Onw.refl _, .inl rfl⟩
  · go_loopw [1, 5] (fun l i wr => ∃ k : Nat, k <= n /\ i = .int .i64 k /\ Onw w wr /\ ∃ r : Int, l = .int .i64 r /\ 0 <= r /\ r = left - (n + sumTo (fun i => (nm i).sz) k : Nat)) (fun _ i _ => n - (intOf i).toNat)
    case atStart => exact ⟨0, Nat.zero_le _, rfl, Onw.refl _, _, rfl, by omega, by simp [sumTo]⟩
    case round =>
      obtain ⟨k, hk, rfl, hb, r, rfl, hr0, hr⟩ := hrel
      have HR : Hid _ := hr
      have : r <= 1048576 := Zo
      clear hr
      by_cases hlt : k < n
      · obtain ⟨b, off, rfl, hc⟩ := (ha.onw hb).1 Zo
        obtain ⟨c0, c1, c2, c3, c4, c5, c6, c7, c8, c9⟩ := hc k hlt
        have hsk := hs k hlt
        clear hc hs
        go_wp2_with fail
        refine (szPart_any (nm k) _ _ hr0 Zo hsk ((ha.2 k hlt).onw hb)).mono ?_
        rintro e w1 ⟨r2, rfl, hb1, (rfl | ⟨p2, q2⟩)⟩
        · go_wp2_with fail
          go_ret
          exact ⟨_, rfl, hb.trans hb1, .inl rfl⟩
        · have Q2 : Hid _ := q2
          clear q2 c0 c1 c2 c3 c4 c5 c6 c7 c8 c9
          go_wp2_with fail
          go_roundw
          case rel => exact ⟨k + 1, by omega, by go_num, hb.trans hb1, _, rfl, by omega, by have := HR.out; have := Q2.out; simp only [sumTo]; omega⟩
          case measure => simp [intOf]; omega
      · go_wp2
        go_ret
        exact ⟨_, rfl, hb, .inr ⟨hr0, by have := HR.out; have : k = n := Zo
                                         subst this; assumption⟩⟩
theorem szTree_any (m:TM)(left:Int)(w:World)(h0:0<=left)(h1:left<=1048576)(hn:m.np<=140737488351232)(hs:∀i,i < m.np->(m.pm i).Reach)(ha:m.At w):
  Calls Tryz.prog 4 #[.agg #[.slice m.pa m.np m.pc],.int .i64 left] w fun e w'=>∃r:Int,e= .returned (.int .i64 r)/\Onw w w'/\(r= -1\/(0<=r/\r=left-m.sz)):=by
 have HS:Hid _:=hs
 have HA:Hid _:=ha
 clear hs ha
 go_enter Tryz.func4,Tryz.ntmps4
 go_wp2_with fail
 refine (szPartS_any _ _ _ m.pm _ _ h0 h1 hn HS.out (PartsAt.onw (Onw.alloc _ _) HA.out)).mono ?_
 rintro e w1 ⟨r2,rfl,hb1,(rfl|⟨p2,q2⟩)⟩
 ·go_wp2_with fail
  go_ret
  exact ⟨_,rfl,(Onw.alloc _ _).trans hb1,.inl rfl⟩
 ·have Q2:Hid _:=q2
  clear q2
  go_wp2_with fail
  go_ret
  exact ⟨_,rfl,(Onw.alloc _ _).trans hb1,.inr ⟨p2,Q2.out⟩⟩
end Go.Proofs.YtlibofjbhhdjdaaGreat
namespace Go.Proofs.YtlibofjbhhdjdaaGreat
open Go.RowKit
variable {cur:Array Value} {B b g i j o:Nat} {p:Nat->Prop} {e:TypeId} {v:Value} {a w w':World}
def Blk (w:World) (g:Nat) (e:TypeId) (cur:Array Value):Prop:=w.heap[g]?= some (.cells cur e (0,0))
theorem Blk.cell (h:Blk w g e cur)(j:Nat):w.cell? ⟨g,j,none⟩=cur[j]?:= cell_of_row w g j cur e (0,0) h
theorem Blk.at_ (h:Blk w g e cur)(j:Nat)(k:cur[j]?= some v):w.cell? ⟨g,j,none⟩=some v:=(h.cell j).trans k
theorem Blk.free (h:Blk w g e cur)(j:Nat):w.frozen? ⟨g,j,none⟩=false:=frozen_of_row w g j cur e h
theorem Blk.lt (h:Blk w g e cur):g < w.heap.size:=by
 by_cases hb:g < w.heap.size
 ·exact hb
 ·have:w.heap[g]?= none:=Zj
  simp[Blk,this] at h
theorem Blk.new (w:World)(e:TypeId)(cur:Array Value):Blk (w.alloc (.cells cur e)) w.heap.size e cur:=heap_alloc_new w _
theorem Blk.set (h:Blk w g e cur)(i:Nat)(v:Value):Blk (w.setCell ⟨g,i,none⟩ v) g e (cur.setIfInBounds i v):=heap_setCell_same w g i cur e v h
theorem Blk.onw (hb:Onw w w')(h:Blk w g e cur):Blk w' g e cur:=(hb.block g h.lt).trans h
def Kept (p:Nat->Prop) (w w':World):Prop:=∀k,p k->w'.heap[k]?= w.heap[k]?
theorem Kept.cell (h:Kept p w w')(hb:p b):w'.cell? ⟨b,o,none⟩=w.cell? ⟨b,o,none⟩:=World.cell?_of_block (w:=w) (h b hb)
theorem ksc (w:World)(g i:Nat)(v:Value):Kept (·≠g) w (w.setCell ⟨g,i,none⟩ v):=fun _ hk=>Below.heap_setCell _ _ _ _ hk
theorem Kept.trans {a b c:World}(h:Kept p a b)(k:Kept p b c):Kept p a c:=fun i hi=>(k i hi).trans (h i hi)
def Frm (B:Nat) (a:Option Addr):Prop:=∀x,a=some x->B<=x.block
theorem Frm.mono {B B':Nat}{a:Option Addr}(h:Frm B a)(hb:B'<=B):Frm B' a:=fun x hx=>Nat.le_trans hb (h x hx)
theorem IntsAt.kept (hk:Kept p w w'){a n f}(ha:∀x,a=some x->p x.block)(h:IntsAt w a n f):IntsAt w' a n f:=fun h0=>by
 obtain ⟨b,off,rfl,hc⟩:=h h0
 exact ⟨b,off,rfl,fun i hi=>by rw[hk.cell (ha _ rfl)];exact hc i hi⟩
theorem StrsAt.kept (hk:Kept p w w'){a n f}(ha:∀x,a=some x->p x.block)(h:StrsAt w a n f):StrsAt w' a n f:=fun h0=>by
 obtain ⟨b,off,rfl,hc⟩:=h h0
 exact ⟨b,off,rfl,fun i hi=>by rw[hk.cell (ha _ rfl)];exact hc i hi⟩
theorem UpsAt.kept (hk:Kept p w w'){a n l f}(ha:∀x,a=some x->p x.block)(h:UpsAt w a n l f):UpsAt w' a n l f:=fun h0=>by
 obtain ⟨b,off,rfl,hc⟩:=h h0
 exact ⟨b,off,rfl,fun i hi=>by rw[hk.cell (ha _ rfl),hk.cell (ha _ rfl)];exact hc i hi⟩
theorem size_set :(cur.setIfInBounds i v).size=cur.size:=J269
theorem get_set_same (h:i < cur.size):(cur.setIfInBounds i v)[i]?= some v:=by simp[h]
theorem get_set_other (h:i≠j):(cur.setIfInBounds i v)[j]?= cur[j]?:= by simp[h]
theorem info_int:(Tryz.prog.info? 3).map (fun i=>(i.zero,i.size,i.bytes))=some (some (.int .i64 0),1,8):=by kernel_rfl
theorem info_string:(Tryz.prog.info? 9).map (fun i=>(i.zero,i.size,i.bytes))=some (some (.string ByteArray.empty),1,16):=by kernel_rfl
theorem run_make_ints (n:Nat)(hn:n<=1048576)(w:World):
  (Instr.makeSlice 64 (.int .i64 n) (.int .i64 n)).run Tryz.prog w= .ok (.slice (some ⟨w.heap.size,0,none⟩) n n) (w.alloc (.cells (madeCells #[.int .i64 0] n) 3)):=by
 obtain ⟨i0,hi,hz0,hz1,hz2⟩:=info_parts info_int
 have:=run_make (P:=Tryz.prog) w 64 3 i0 _ Tryz.underlying64 hi hz0 .i64 .i64 n n Zo Zo (by rw[hz2];omega) Zo
 simpa[hz1,Value.cells] using this
theorem run_make_strs (n:Nat)(hn:n<=1048576)(w:World):
  (Instr.makeSlice 63 (.int .i64 n) (.int .i64 n)).run Tryz.prog w= .ok (.slice (some ⟨w.heap.size,0,none⟩) n n) (w.alloc (.cells (madeCells #[.string ByteArray.empty] n) 9)):=by
 obtain ⟨i0,hi,hz0,hz1,hz2⟩:=info_parts info_string
 have:=run_make (P:=Tryz.prog) w 63 9 i0 _ Tryz.underlying63 hi hz0 .i64 .i64 n n Zo Zo (by rw[hz2];omega) Zo
 simpa[hz1,Value.cells] using this
theorem toIntS_any (a:Option Addr)(n c:Nat)(f:Nat->Int)(w:World)(hn:n<=1048576)(ha:IntsAt w a n f):
  Calls Tryz.prog 43 #[.slice a n c] w fun e w'=>∃a',e= .returned (.slice a' n n)/\Onw w w'/\IntsAt w' a' n f/\Frm w.heap.size a':=by
 have hmk:=run_make_ints n hn
 go_enter Tryz.func43,Tryz.ntmps43
 go_wp2
 go_loopw [4] (fun i wr=>∃k:Nat,k<=n/\i= .int .i64 k/\Onw w wr/\∃cur,Blk wr w.heap.size 3 cur/\cur.size=n/\∀i,i < k->cur[i]?= some (.int .i64 (f i))) (fun i _=>n-(intOf i).toNat)
 case atStart=>exact ⟨0,Nat.zero_le _,rfl,Onw.alloc _ _,_,Blk.new _ _ _,by simp[size_madeCells],fun i hi=>by omega⟩
 case round=>
  exact J81
theorem toStringS_any (a:Option Addr)(n c:Nat)(f:Nat->ByteArray)(w:World)(hn:n<=1048576)(ha:StrsAt w a n f):
  Calls Tryz.prog 42 #[.slice a n c] w fun e w'=>∃a',e= .returned (.slice a' n n)/\Onw w w'/\StrsAt w' a' n f/\Frm w.heap.size a':=by
 have hmk:=run_make_strs n hn
 go_enter Tryz.func42,Tryz.ntmps42
 go_wp2
 go_loopw [4] (fun i wr=>∃k:Nat,k<=n/\i= .int .i64 k/\Onw w wr/\∃cur,Blk wr w.heap.size 9 cur/\cur.size=n/\∀i,i < k->cur[i]?= some (.string (f i))) (fun i _=>n-(intOf i).toNat)
 case atStart=>exact ⟨0,Nat.zero_le _,rfl,Onw.alloc _ _,_,Blk.new _ _ _,by simp[size_madeCells],fun i hi=>by omega⟩
 case round=>
  exact J81
theorem bcell {W w1:World}(hb:Onw W w1):(∀b o,b < W.heap.size->w1.cell? ⟨b,o,none⟩=W.cell? ⟨b,o,none⟩)/\(∀b o,b < W.heap.size->w1.frozen? ⟨b,o,none⟩=W.frozen? ⟨b,o,none⟩):=
 ⟨fun b o h=>hb.cell (p:=⟨b,o,none⟩) h,fun b o h=>hb.frozen (p:=⟨b,o,none⟩) h⟩
theorem Blk.kept (hk:Kept p w w'){g e cur}(hg:p g)(h:Blk w g e cur):Blk w' g e cur:=(hk g hg).trans h
theorem Kept.refl (p:Nat->Prop)(w:World):Kept p w w:=fun _ _=>rfl
theorem Kept.setCell (h:Kept p a w){x:Addr}(hx:¬p x.block)(v:Value):Kept p a (w.setCell x v):=
 fun k hk=>(Below.heap_setCell _ _ _ _ (fun e=>hx (e▸hk))).trans (h k hk)
theorem Kept.set (h:Kept p a w)(hx:¬p b)(v:Value):Kept p a (w.setCell ⟨b,o,none⟩ v):=h.setCell hx v
theorem bset (h:Below B a w)(hp:B<=b)(v:Value):Below B a (w.setCell ⟨b,o,none⟩ v):=h.setCell hp v
theorem rsf (P:Program)(w:World)(a:Addr)(m:Mode)(k:FloatKind)(b:Nat):(store a (.float k b) m).run P w=stored P w a (.float k b) m:=run_store P w a _ m rfl
def setL (cur:Array Value) (o:Nat):List Value->Array Value
 | []=>cur
 |v::r=>setL (cur.setIfInBounds o v) (o+1) r
attribute [local go_sem] rsf
theorem size_setL:∀(vs:List Value) (cur:Array Value) (o:Nat),(setL cur o vs).size=cur.size
 | [],_,_=>rfl
 |v::r,cur,o=>by rw[setL,size_setL r];simp
theorem get_setL_out:∀(vs:List Value) (cur:Array Value) (o i:Nat),i < o\/o+vs.length<=i->(setL cur o vs)[i]?= cur[i]?
 | [],_,_,_,_=>rfl
 |v::r,cur,o,i,h=>by
  rw[setL,get_setL_out r _ _ _ (by simp at h;omega),get_set_other]
  simp at h;omega
theorem get_setL_in:∀(vs:List Value) (cur:Array Value) (o j:Nat),o+vs.length<=cur.size->j < vs.length->(setL cur o vs)[o+j]?= vs[j]?
 |v::r,cur,o,0,h,_=>by
  have ho:o < cur.size:=by simp at h;omega
  rw[setL,get_setL_out r _ _ _ Zo];simp[ho]
 |v::r,cur,o,j+1,h,hj=>by
  have:=get_setL_in r (cur.setIfInBounds o v) (o+1) j (by simp at h;simp;omega) (by simpa using hj)
  rw[setL,show o+(j+1)=o+1+j from by omega,this];simp
theorem Blk.setL :∀(vs:List Value) (w:World) (cur:Array Value) (o:Nat),Blk w g e cur->Blk (w.setCells g o vs) g e (setL cur o vs)
 | [],_,_,_,h=>h
 |v::r,_,_,o,h=>Blk.setL r _ _ (o+1) (h.set o v)
theorem below_setL (hg:B<=g):∀(vs:List Value) (a w:World) (o:Nat),Below B a w->Below B a (w.setCells g o vs)
 | [],_,_,_,h=>h
 |v::r,_,_,o,h=>below_setL hg r _ _ (o+1) (bset h hg v)
theorem kept_setL :∀(vs:List Value) (w:World) (o:Nat),Kept (·≠g) w (w.setCells g o vs)
 | [],_,_=>Kept.refl _ _
 |v::r,w,o=>(ksc w g o v).trans (kept_setL r _ (o+1))
theorem Blk.some (h:Blk w g e cur)(hj:j < cur.size):∃v,w.cell? ⟨g,j,none⟩=some v:=
 ⟨cur[j],by rw[h.cell];simp[hj]⟩
end Go.Proofs.YtlibofjbhhdjdaaGreat
