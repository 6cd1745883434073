import Derived.WalkKit
import Derived.WalkSpells
import Derived.Test.YtnokgdgikdgaeaaGreatRows
import Derived.WalkLawsBesides
/- Plain data, and where it lies in memory: what a unit is, whatever the addresses. -/
namespace Go.Proofs.YtnokgdgikdgaeaaGreat
open Go.RowKit

/-- A node, as data. -/
structure ND where
  kind : Int
  line : Int
  op : Int
  num : Int
  flt : Nat
  str : ByteArray
  nr : Nat
  rf : Nat → Int
  nk : Nat
  kd : Nat → Int

/-- A node, and where its lists lie. -/
structure NM extends ND where
  ra : Option Addr
  rc : Nat
  ka : Option Addr
  kc : Nat

structure FD where
  name : ByteArray
  line : Int
  params : Int
  rest : Bool
  nv : Nat
  vr : Nat → ByteArray
  nu : Nat
  ul : Nat → Bool
  ui : Nat → Int
  nn : Nat
  nd : Nat → ND

structure FM where
  name : ByteArray
  line : Int
  params : Int
  rest : Bool
  nv : Nat
  vr : Nat → ByteArray
  nu : Nat
  ul : Nat → Bool
  ui : Nat → Int
  nn : Nat
  nm : Nat → NM
  va : Option Addr
  vc : Nat
  ua : Option Addr
  uc : Nat
  na : Option Addr
  nc : Nat

def FM.toFD (m : FM) : FD := ⟨m.name, m.line, m.params, m.rest, m.nv, m.vr, m.nu, m.ul, m.ui, m.nn, fun i => (m.nm i).toND⟩

structure UD where
  nf : Nat
  fn : Nat → FD

structure UM where
  nf : Nat
  fm : Nat → FM
  fa : Option Addr
  fc : Nat

def UM.toUD (m : UM) : UD := ⟨m.nf, fun i => (m.fm i).toFD⟩

/-- The values. -/
def NM.val (m : NM) : Array Value := #[.int .i64 m.kind, .int .i64 m.line, .int .i64 m.op, .int .i64 m.num, .float .f64 m.flt, .string m.str, .slice m.ra m.nr m.rc, .slice m.ka m.nk m.kc]
def FM.val (m : FM) : Array Value := #[.string m.name, .int .i64 m.line, .int .i64 m.params, .bool m.rest, .slice m.va m.nv m.vc, .slice m.ua m.nu m.uc, .slice m.na m.nn m.nc]

/-- n elements of E cells each lie at a. -/
def Lies (w : World) (a : Option Addr) (n E : Nat) (f : Nat → Nat → Value) : Prop :=
  0 < n → ∃ b off, a = some ⟨b, off, none⟩ ∧ ∀ i, i < n → ∀ j, j < E → w.cell? ⟨b, off + i * E + j, none⟩ = some (f i j)

def IntsAt (w : World) (a : Option Addr) (n : Nat) (f : Nat → Int) : Prop :=
  0 < n → ∃ b off, a = some ⟨b, off, none⟩ ∧ ∀ i, i < n → w.cell? ⟨b, off + i, none⟩ = some (.int .i64 (f i))
def StrsAt (w : World) (a : Option Addr) (n : Nat) (f : Nat → ByteArray) : Prop :=
  0 < n → ∃ b off, a = some ⟨b, off, none⟩ ∧ ∀ i, i < n → w.cell? ⟨b, off + i, none⟩ = some (.string (f i))
def UpsAt (w : World) (a : Option Addr) (n : Nat) (l : Nat → Bool) (f : Nat → Int) : Prop :=
  0 < n → ∃ b off, a = some ⟨b, off, none⟩ ∧ ∀ i, i < n → w.cell? ⟨b, off + i * 2, none⟩ = some (.bool (l i)) ∧ w.cell? ⟨b, off + i * 2 + 1, none⟩ = some (.int .i64 (f i))

/-- What a node leads to. -/
def NM.At (w : World) (m : NM) : Prop := IntsAt w m.ra m.nr m.rf ∧ IntsAt w m.ka m.nk m.kd

/-- The eight cells of a node. -/
structure NodeCells (w : World) (b o : Nat) (m : NM) : Prop where
  c0 : w.cell? ⟨b, o, none⟩ = some (.int .i64 m.kind)
  c1 : w.cell? ⟨b, o + 1, none⟩ = some (.int .i64 m.line)
  c2 : w.cell? ⟨b, o + 2, none⟩ = some (.int .i64 m.op)
  c3 : w.cell? ⟨b, o + 3, none⟩ = some (.int .i64 m.num)
  c4 : w.cell? ⟨b, o + 4, none⟩ = some (.float .f64 m.flt)
  c5 : w.cell? ⟨b, o + 5, none⟩ = some (.string m.str)
  c6 : w.cell? ⟨b, o + 6, none⟩ = some (.slice m.ra m.nr m.rc)
  c7 : w.cell? ⟨b, o + 7, none⟩ = some (.slice m.ka m.nk m.kc)

def NodesAt (w : World) (a : Option Addr) (n : Nat) (nm : Nat → NM) : Prop :=
  (0 < n → ∃ b off, a = some ⟨b, off, none⟩ ∧ ∀ i, i < n → NodeCells w b (off + i * 8) (nm i)) ∧ ∀ i, i < n → (nm i).At w

def FM.At (w : World) (m : FM) : Prop := StrsAt w m.va m.nv m.vr ∧ UpsAt w m.ua m.nu m.ul m.ui ∧ NodesAt w m.na m.nn m.nm

structure FnCells (w : World) (b o : Nat) (m : FM) : Prop where
  c0 : w.cell? ⟨b, o, none⟩ = some (.string m.name)
  c1 : w.cell? ⟨b, o + 1, none⟩ = some (.int .i64 m.line)
  c2 : w.cell? ⟨b, o + 2, none⟩ = some (.int .i64 m.params)
  c3 : w.cell? ⟨b, o + 3, none⟩ = some (.bool m.rest)
  c4 : w.cell? ⟨b, o + 4, none⟩ = some (.slice m.va m.nv m.vc)
  c5 : w.cell? ⟨b, o + 5, none⟩ = some (.slice m.ua m.nu m.uc)
  c6 : w.cell? ⟨b, o + 6, none⟩ = some (.slice m.na m.nn m.nc)

def FnsAt (w : World) (a : Option Addr) (n : Nat) (fm : Nat → FM) : Prop :=
  (0 < n → ∃ b off, a = some ⟨b, off, none⟩ ∧ ∀ i, i < n → FnCells w b (off + i * 7) (fm i)) ∧ ∀ i, i < n → (fm i).At w

def UM.At (w : World) (m : UM) : Prop := FnsAt w m.fa m.nf m.fm

/-- Steps that turn nothing old. -/
abbrev Onw (w w' : World) : Prop := Below w.heap.size w w'

theorem cell_lt {w : World} {b o : Nat} {v : Value} (h : w.cell? ⟨b, o, none⟩ = some v) : b < w.heap.size := by
  by_cases hb : b < w.heap.size
  · exact hb
  · have : w.heap[b]? = none := by simp; omega
    simp [World.cell?, this] at h

theorem cell_onw {w w' : World} (hb : Onw w w') {b o : Nat} {v : Value} (h : w.cell? ⟨b, o, none⟩ = some v) : w'.cell? ⟨b, o, none⟩ = some v := by
  rw [← h]; exact hb.cell (cell_lt h)

theorem IntsAt.onw {w w' : World} (hb : Onw w w') {a n f} (h : IntsAt w a n f) : IntsAt w' a n f := fun h0 => by
  obtain ⟨b, off, ha, hc⟩ := h h0
  exact ⟨b, off, ha, fun i hi => cell_onw hb (hc i hi)⟩
theorem StrsAt.onw {w w' : World} (hb : Onw w w') {a n f} (h : StrsAt w a n f) : StrsAt w' a n f := fun h0 => by
  obtain ⟨b, off, ha, hc⟩ := h h0
  exact ⟨b, off, ha, fun i hi => cell_onw hb (hc i hi)⟩
theorem UpsAt.onw {w w' : World} (hb : Onw w w') {a n l f} (h : UpsAt w a n l f) : UpsAt w' a n l f := fun h0 => by
  obtain ⟨b, off, ha, hc⟩ := h h0
  exact ⟨b, off, ha, fun i hi => ⟨cell_onw hb (hc i hi).1, cell_onw hb (hc i hi).2⟩⟩
theorem NM.At.onw {w w' : World} (hb : Onw w w') {m : NM} (h : m.At w) : m.At w' := ⟨h.1.onw hb, h.2.onw hb⟩
theorem NodeCells.onw {w w' : World} (hb : Onw w w') {b o m} (h : NodeCells w b o m) : NodeCells w' b o m :=
  ⟨cell_onw hb h.c0, cell_onw hb h.c1, cell_onw hb h.c2, cell_onw hb h.c3, cell_onw hb h.c4, cell_onw hb h.c5, cell_onw hb h.c6, cell_onw hb h.c7⟩
theorem NodesAt.onw {w w' : World} (hb : Onw w w') {a n nm} (h : NodesAt w a n nm) : NodesAt w' a n nm :=
  ⟨fun h0 => by obtain ⟨b, off, ha, hc⟩ := h.1 h0; exact ⟨b, off, ha, fun i hi => (hc i hi).onw hb⟩, fun i hi => (h.2 i hi).onw hb⟩
theorem FM.At.onw {w w' : World} (hb : Onw w w') {m : FM} (h : m.At w) : m.At w' := ⟨h.1.onw hb, h.2.1.onw hb, h.2.2.onw hb⟩
theorem FnCells.onw {w w' : World} (hb : Onw w w') {b o m} (h : FnCells w b o m) : FnCells w' b o m :=
  ⟨cell_onw hb h.c0, cell_onw hb h.c1, cell_onw hb h.c2, cell_onw hb h.c3, cell_onw hb h.c4, cell_onw hb h.c5, cell_onw hb h.c6⟩
theorem FnsAt.onw {w w' : World} (hb : Onw w w') {a n fm} (h : FnsAt w a n fm) : FnsAt w' a n fm :=
  ⟨fun h0 => by obtain ⟨b, off, ha, hc⟩ := h.1 h0; exact ⟨b, off, ha, fun i hi => (hc i hi).onw hb⟩, fun i hi => (h.2 i hi).onw hb⟩
theorem UM.At.onw {w w' : World} (hb : Onw w w') {m : UM} (h : m.At w) : m.At w' := FnsAt.onw hb h

theorem Onw.refl (w : World) : Onw w w := Below.refl _ _
theorem Onw.trans {a b c : World} (h : Onw a b) (k : Onw b c) : Onw a c := Below.trans h (Below.mono k h.size)
theorem Onw.alloc (w : World) (o : Obj) : Onw w (w.alloc o) := (Below.refl _ _).alloc (Nat.le_refl _) _
end Go.Proofs.YtnokgdgikdgaeaaGreat

namespace Go.Proofs.YtnokgdgikdgaeaaGreat
open Go.RowKit

def NM.sz (m : NM) : Nat := m.str.size + m.nr + m.nk
def sumTo (f : Nat → Nat) : Nat → Nat
  | 0 => 0
  | k + 1 => sumTo f k + f k
def FM.sz (m : FM) : Nat := m.name.size + (m.nv + sumTo (fun i => (m.vr i).size) m.nv) + m.nu + (m.nn + sumTo (fun i => (m.nm i).sz) m.nn)
def UM.sz (m : UM) : Nat := m.nf + sumTo (fun i => (m.fm i).sz) m.nf

/-- Each list, each string by itself is within the reach. -/
def NM.Reach (m : NM) : Prop := m.str.size ≤ 140737488351232 ∧ m.nr ≤ 140737488351232 ∧ m.nk ≤ 140737488351232
def FM.Reach (m : FM) : Prop := m.name.size ≤ 140737488351232 ∧ m.nv ≤ 140737488351232 ∧ m.nu ≤ 140737488351232 ∧ m.nn ≤ 140737488351232 ∧ (∀ i, i < m.nv → (m.vr i).size ≤ 140737488351232) ∧ ∀ i, i < m.nn → (m.nm i).Reach

set_option maxHeartbeats 400000 in
theorem szIntS_any (a : Option Addr) (n c : Nat) (left : Int) (w : World) (h0 : 0 ≤ left) (h1 : left ≤ 1048576) (hn : n ≤ 140737488351232) :
    Calls Tryz.prog 82 #[.slice a n c, .int .i64 left] w fun e w' => ∃ r : Int, e = .returned (.int .i64 r) ∧ w' = w ∧ (r = -1 ∨ (0 ≤ r ∧ r = left - n)) := by
  go_enter Tryz.func82, Tryz.ntmps82
  go_wp2
  all_goals go_ret
  · exact ⟨_, rfl, rfl, .inl rfl⟩
  · exact ⟨_, rfl, rfl, .inr ⟨by omega, rfl⟩⟩

set_option maxHeartbeats 400000 in
theorem szUpS_any (a : Option Addr) (n c : Nat) (left : Int) (w : World) (h0 : 0 ≤ left) (h1 : left ≤ 1048576) (hn : n ≤ 140737488351232) :
    Calls Tryz.prog 47 #[.slice a n c, .int .i64 left] w fun e w' => ∃ r : Int, e = .returned (.int .i64 r) ∧ w' = w ∧ (r = -1 ∨ (0 ≤ r ∧ r = left - n)) := by
  go_enter Tryz.func47, Tryz.ntmps47
  go_wp2
  all_goals go_ret
  · exact ⟨_, rfl, rfl, .inl rfl⟩
  · exact ⟨_, rfl, rfl, .inr ⟨by omega, rfl⟩⟩

set_option maxHeartbeats 400000 in
theorem szNode_any (m : NM) (left : Int) (w : World) (h0 : 0 ≤ left) (h1 : left ≤ 1048576) (hm : m.Reach) :
    Calls Tryz.prog 70 #[.agg #[.int .i64 m.kind, .int .i64 m.line, .int .i64 m.op, .int .i64 m.num, .float .f64 m.flt, .string m.str, .slice m.ra m.nr m.rc, .slice m.ka m.nk m.kc], .int .i64 left] w fun e w' => ∃ r : Int, e = .returned (.int .i64 r) ∧ Onw w w' ∧ (r = -1 ∨ (0 ≤ r ∧ r = left - m.sz)) := by
  obtain ⟨g1, g2, g3⟩ := hm
  go_enter Tryz.func70, Tryz.ntmps70
  go_wp2_with fail
  · go_ret
    exact ⟨_, rfl, Onw.alloc _ _, .inl rfl⟩
  · refine (szIntS_any _ _ _ _ _ (by omega) (by omega) g2).mono ?_
    rintro e w1 ⟨r1, rfl, rfl, (rfl | ⟨p1, q1⟩)⟩
    · go_wp2_with fail
      go_ret
      exact ⟨_, rfl, Onw.alloc _ _, .inl rfl⟩
    · have Q1 : Hid _ := q1
      have : r1 ≤ 1048576 := by omega
      clear q1
      go_wp2_with fail
      refine (szIntS_any _ _ _ _ _ (by omega) (by omega) g3).mono ?_
      rintro e w1 ⟨r2, rfl, rfl, (rfl | ⟨p2, q2⟩)⟩
      · go_wp2_with fail
        go_ret
        exact ⟨_, rfl, Onw.alloc _ _, .inl rfl⟩
      · have Q2 : Hid _ := q2
        clear q2
        go_wp2_with fail
        go_ret
        exact ⟨_, rfl, Onw.alloc _ _, .inr ⟨p2, by have := Q1.out; have := Q2.out; unfold NM.sz; omega⟩⟩
end Go.Proofs.YtnokgdgikdgaeaaGreat

namespace Go.Proofs.YtnokgdgikdgaeaaGreat
open Go.RowKit

set_option maxHeartbeats 400000 in
theorem szStringS_any (a : Option Addr) (n c : Nat) (f : Nat → ByteArray) (left : Int) (w : World) (h0 : 0 ≤ left) (h1 : left ≤ 1048576) (hn : n ≤ 140737488351232)
    (hs : ∀ i, i < n → (f i).size ≤ 140737488351232) (ha : StrsAt w a n f) :
    Calls Tryz.prog 46 #[.slice a n c, .int .i64 left] w fun e w' => ∃ r : Int, e = .returned (.int .i64 r) ∧ w' = w ∧ (r = -1 ∨ (0 ≤ r ∧ r = left - (n + sumTo (fun i => (f i).size) n : Nat))) := by
  go_enter Tryz.func46, Tryz.ntmps46
  go_wp2
  · go_ret
    exact ⟨_, rfl, rfl, .inl rfl⟩
  · go_loop [1, 5] (fun l i => ∃ k : Nat, k ≤ n ∧ i = .int .i64 k ∧ ∃ r : Int, l = .int .i64 r ∧ 0 ≤ r ∧ r = left - (n + sumTo (fun i => (f i).size) k : Nat)) (fun _ i => n - (intOf i).toNat)
    case atStart => exact ⟨0, Nat.zero_le _, rfl, _, rfl, by omega, by simp [sumTo]⟩
    case round =>
      obtain ⟨k, hk, rfl, r, rfl, hr0, hr⟩ := hrel
      have HR : Hid _ := hr
      have : r ≤ 1048576 := by omega
      clear hr
      by_cases hlt : k < n
      · obtain ⟨b, off, rfl, hc⟩ := ha (by omega)
        have hck := hc k hlt
        have hsk := hs k hlt
        clear hc hs
        go_wp2
        · go_ret
          exact ⟨_, rfl, rfl, .inl rfl⟩
        · go_round
          case rel => exact ⟨k + 1, by omega, by go_num, _, rfl, by omega, by have := HR.out; simp only [sumTo]; omega⟩
          case measure => simp [intOf]; omega
      · go_wp2
        go_ret
        exact ⟨_, rfl, rfl, .inr ⟨hr0, by have := HR.out; have : k = n := by omega
                                          subst this; assumption⟩⟩

set_option maxHeartbeats 400000 in
theorem szNodeS_any (a : Option Addr) (n c : Nat) (nm : Nat → NM) (left : Int) (w : World) (h0 : 0 ≤ left) (h1 : left ≤ 1048576) (hn : n ≤ 140737488351232)
    (hs : ∀ i, i < n → (nm i).Reach) (ha : NodesAt w a n nm) :
    Calls Tryz.prog 48 #[.slice a n c, .int .i64 left] w fun e w' => ∃ r : Int, e = .returned (.int .i64 r) ∧ Onw w w' ∧ (r = -1 ∨ (0 ≤ r ∧ r = left - (n + sumTo (fun i => (nm i).sz) n : Nat))) := by
  go_enter Tryz.func48, Tryz.ntmps48
  go_wp2
  · go_ret
    exact ⟨_, rfl, Onw.refl _, .inl rfl⟩
  · go_loopw [1, 5] (fun l i wr => ∃ k : Nat, k ≤ n ∧ i = .int .i64 k ∧ Onw w wr ∧ ∃ r : Int, l = .int .i64 r ∧ 0 ≤ r ∧ r = left - (n + sumTo (fun i => (nm i).sz) k : Nat)) (fun _ i _ => n - (intOf i).toNat)
    case atStart => exact ⟨0, Nat.zero_le _, rfl, Onw.refl _, _, rfl, by omega, by simp [sumTo]⟩
    case round =>
      obtain ⟨k, hk, rfl, hb, r, rfl, hr0, hr⟩ := hrel
      have HR : Hid _ := hr
      have : r ≤ 1048576 := by omega
      clear hr
      by_cases hlt : k < n
      · obtain ⟨b, off, rfl, hc⟩ := (ha.onw hb).1 (by omega)
        obtain ⟨c0, c1, c2, c3, c4, c5, c6, c7⟩ := hc k hlt
        have hsk := hs k hlt
        clear hc hs
        go_wp2_with fail
        refine (szNode_any (nm k) _ _ hr0 (by omega) hsk).mono ?_
        rintro e w1 ⟨r2, rfl, hb1, (rfl | ⟨p2, q2⟩)⟩
        · go_wp2_with fail
          go_ret
          exact ⟨_, rfl, hb.trans hb1, .inl rfl⟩
        · have Q2 : Hid _ := q2
          clear q2 c0 c1 c2 c3 c4 c5 c6 c7
          go_wp2_with fail
          go_roundw
          case rel => exact ⟨k + 1, by omega, by go_num, hb.trans hb1, _, rfl, by omega, by have := HR.out; have := Q2.out; simp only [sumTo]; omega⟩
          case measure => simp [intOf]; omega
      · go_wp2
        go_ret
        exact ⟨_, rfl, hb, .inr ⟨hr0, by have := HR.out; have : k = n := by omega
                                         subst this; assumption⟩⟩
end Go.Proofs.YtnokgdgikdgaeaaGreat

namespace Go.Proofs.YtnokgdgikdgaeaaGreat
open Go.RowKit

set_option maxHeartbeats 400000 in
theorem szFn_any (m : FM) (left : Int) (w : World) (h0 : 0 ≤ left) (h1 : left ≤ 1048576) (hm : m.Reach) (ha : m.At w) :
    Calls Tryz.prog 29 #[.agg #[.string m.name, .int .i64 m.line, .int .i64 m.params, .bool m.rest, .slice m.va m.nv m.vc, .slice m.ua m.nu m.uc, .slice m.na m.nn m.nc], .int .i64 left] w fun e w' => ∃ r : Int, e = .returned (.int .i64 r) ∧ Onw w w' ∧ (r = -1 ∨ (0 ≤ r ∧ r = left - m.sz)) := by
  obtain ⟨g1, g2, g3, g4, g5, g6⟩ := hm
  obtain ⟨a1, a2, a3⟩ := ha
  have G5 : Hid _ := g5
  have G6 : Hid _ := g6
  have A1 : Hid _ := a1
  have A3 : Hid _ := a3
  clear g5 g6 a1 a2 a3
  go_enter Tryz.func29, Tryz.ntmps29
  go_wp2_with fail
  · go_ret
    exact ⟨_, rfl, Onw.alloc _ _, .inl rfl⟩
  · refine (szStringS_any _ _ _ m.vr _ _ (by omega) (by omega) g2 G5.out (StrsAt.onw (Onw.alloc _ _) A1.out)).mono ?_
    rintro e w1 ⟨r1, rfl, rfl, (rfl | ⟨p1, q1⟩)⟩
    · go_wp2_with fail
      go_ret
      exact ⟨_, rfl, Onw.alloc _ _, .inl rfl⟩
    · have Q1 : Hid _ := q1
      have : r1 ≤ 1048576 := by omega
      clear q1
      go_wp2_with fail
      refine (szUpS_any _ _ _ _ _ (by omega) (by omega) g3).mono ?_
      rintro e w1 ⟨r2, rfl, rfl, (rfl | ⟨p2, q2⟩)⟩
      · go_wp2_with fail
        go_ret
        exact ⟨_, rfl, Onw.alloc _ _, .inl rfl⟩
      · have Q2 : Hid _ := q2
        have : r2 ≤ 1048576 := by omega
        clear q2
        go_wp2_with fail
        refine (szNodeS_any _ _ _ m.nm _ _ (by omega) (by omega) g4 G6.out (NodesAt.onw (Onw.alloc _ _) A3.out)).mono ?_
        rintro e w1 ⟨r3, rfl, hb, (rfl | ⟨p3, q3⟩)⟩
        · go_wp2_with fail
          go_ret
          exact ⟨_, rfl, (Onw.alloc _ _).trans hb, .inl rfl⟩
        · have Q3 : Hid _ := q3
          clear q3
          go_wp2_with fail
          go_ret
          exact ⟨_, rfl, (Onw.alloc _ _).trans hb, .inr ⟨p3, by have := Q1.out; have := Q2.out; have := Q3.out; unfold FM.sz; omega⟩⟩

set_option maxHeartbeats 400000 in
theorem szFnS_any (a : Option Addr) (n c : Nat) (fm : Nat → FM) (left : Int) (w : World) (h0 : 0 ≤ left) (h1 : left ≤ 1048576) (hn : n ≤ 140737488351232)
    (hs : ∀ i, i < n → (fm i).Reach) (ha : FnsAt w a n fm) :
    Calls Tryz.prog 10 #[.slice a n c, .int .i64 left] w fun e w' => ∃ r : Int, e = .returned (.int .i64 r) ∧ Onw w w' ∧ (r = -1 ∨ (0 ≤ r ∧ r = left - (n + sumTo (fun i => (fm i).sz) n : Nat))) := by
  go_enter Tryz.func10, Tryz.ntmps10
  go_wp2
  · go_ret
    exact ⟨_, rfl, Onw.refl _, .inl rfl⟩
  · go_loopw [1, 5] (fun l i wr => ∃ k : Nat, k ≤ n ∧ i = .int .i64 k ∧ Onw w wr ∧ ∃ r : Int, l = .int .i64 r ∧ 0 ≤ r ∧ r = left - (n + sumTo (fun i => (fm i).sz) k : Nat)) (fun _ i _ => n - (intOf i).toNat)
    case atStart => exact ⟨0, Nat.zero_le _, rfl, Onw.refl _, _, rfl, by omega, by simp [sumTo]⟩
    case round =>
      obtain ⟨k, hk, rfl, hb, r, rfl, hr0, hr⟩ := hrel
      have HR : Hid _ := hr
      have : r ≤ 1048576 := by omega
      clear hr
      by_cases hlt : k < n
      · obtain ⟨b, off, rfl, hc⟩ := (ha.onw hb).1 (by omega)
        obtain ⟨c0, c1, c2, c3, c4, c5, c6⟩ := hc k hlt
        have hsk := hs k hlt
        clear hc hs
        go_wp2_with fail
        refine (szFn_any (fm k) _ _ hr0 (by omega) hsk ((ha.2 k hlt).onw hb)).mono ?_
        rintro e w1 ⟨r2, rfl, hb1, (rfl | ⟨p2, q2⟩)⟩
        · go_wp2_with fail
          go_ret
          exact ⟨_, rfl, hb.trans hb1, .inl rfl⟩
        · have Q2 : Hid _ := q2
          clear q2 c0 c1 c2 c3 c4 c5 c6
          go_wp2_with fail
          go_roundw
          case rel => exact ⟨k + 1, by omega, by go_num, hb.trans hb1, _, rfl, by omega, by have := HR.out; have := Q2.out; simp only [sumTo]; omega⟩
          case measure => simp [intOf]; omega
      · go_wp2
        go_ret
        exact ⟨_, rfl, hb, .inr ⟨hr0, by have := HR.out; have : k = n := by omega
                                         subst this; assumption⟩⟩

set_option maxHeartbeats 400000 in
theorem szUnit_any (m : UM) (left : Int) (w : World) (h0 : 0 ≤ left) (h1 : left ≤ 1048576) (hn : m.nf ≤ 140737488351232)
    (hs : ∀ i, i < m.nf → (m.fm i).Reach) (ha : m.At w) :
    Calls Tryz.prog 4 #[.agg #[.slice m.fa m.nf m.fc], .int .i64 left] w fun e w' => ∃ r : Int, e = .returned (.int .i64 r) ∧ Onw w w' ∧ (r = -1 ∨ (0 ≤ r ∧ r = left - m.sz)) := by
  have HS : Hid _ := hs
  have HA : Hid _ := ha
  clear hs ha
  go_enter Tryz.func4, Tryz.ntmps4
  go_wp2_with fail
  refine (szFnS_any _ _ _ m.fm _ _ h0 h1 hn HS.out (FnsAt.onw (Onw.alloc _ _) HA.out)).mono ?_
  rintro e w1 ⟨r2, rfl, hb1, (rfl | ⟨p2, q2⟩)⟩
  · go_wp2_with fail
    go_ret
    exact ⟨_, rfl, (Onw.alloc _ _).trans hb1, .inl rfl⟩
  · have Q2 : Hid _ := q2
    clear q2
    go_wp2_with fail
    go_ret
    exact ⟨_, rfl, (Onw.alloc _ _).trans hb1, .inr ⟨p2, Q2.out⟩⟩
end Go.Proofs.YtnokgdgikdgaeaaGreat

namespace Go.Proofs.YtnokgdgikdgaeaaGreat
open Go.RowKit

/-- A block of the call's own, whole. -/
def Blk (w : World) (g : Nat) (e : TypeId) (cur : Array Value) : Prop := w.heap[g]? = some (.cells cur e (0, 0))

theorem Blk.cell {w : World} {g : Nat} {e : TypeId} {cur : Array Value} (h : Blk w g e cur) (j : Nat) : w.cell? ⟨g, j, none⟩ = cur[j]? := cell_of_row w g j cur e (0, 0) h
theorem Blk.free {w : World} {g : Nat} {e : TypeId} {cur : Array Value} (h : Blk w g e cur) (j : Nat) : w.frozen? ⟨g, j, none⟩ = false := frozen_of_row w g j cur e h
theorem Blk.lt {w : World} {g : Nat} {e : TypeId} {cur : Array Value} (h : Blk w g e cur) : g < w.heap.size := by
  by_cases hb : g < w.heap.size
  · exact hb
  · have : w.heap[g]? = none := by simp; omega
    simp [Blk, this] at h
theorem Blk.new (w : World) (e : TypeId) (cur : Array Value) : Blk (w.alloc (.cells cur e)) w.heap.size e cur := heap_alloc_new w _
theorem Blk.set {w : World} {g : Nat} {e : TypeId} {cur : Array Value} (h : Blk w g e cur) (i : Nat) (v : Value) : Blk (w.setCell ⟨g, i, none⟩ v) g e (cur.setIfInBounds i v) := heap_setCell_same w g i cur e v h
theorem Blk.onw {w w' : World} (hb : Onw w w') {g : Nat} {e : TypeId} {cur : Array Value} (h : Blk w g e cur) : Blk w' g e cur := (hb.block g h.lt).trans h

/-- Blocks of which p holds are as they were. -/
def Kept (p : Nat → Prop) (w w' : World) : Prop := ∀ k, p k → w'.heap[k]? = w.heap[k]?
theorem Kept.cell {p : Nat → Prop} {w w' : World} (h : Kept p w w') {b o : Nat} (hb : p b) : w'.cell? ⟨b, o, none⟩ = w.cell? ⟨b, o, none⟩ := World.cell?_of_block (w := w) (h b hb)
theorem kept_setCell (w : World) (g i : Nat) (v : Value) : Kept (· ≠ g) w (w.setCell ⟨g, i, none⟩ v) := fun _ hk => Below.heap_setCell _ _ _ _ hk
theorem Kept.trans {p : Nat → Prop} {a b c : World} (h : Kept p a b) (k : Kept p b c) : Kept p a c := fun i hi => (k i hi).trans (h i hi)

/-- An address from block B on. -/
def Frm (B : Nat) (a : Option Addr) : Prop := ∀ x, a = some x → B ≤ x.block
theorem Frm.mono {B B' : Nat} {a : Option Addr} (h : Frm B a) (hb : B' ≤ B) : Frm B' a := fun x hx => Nat.le_trans hb (h x hx)
theorem IntsAt.kept {p : Nat → Prop} {w w' : World} (hk : Kept p w w') {a n f} (ha : ∀ x, a = some x → p x.block) (h : IntsAt w a n f) : IntsAt w' a n f := fun h0 => by
  obtain ⟨b, off, rfl, hc⟩ := h h0
  exact ⟨b, off, rfl, fun i hi => by rw [hk.cell (ha _ rfl)]; exact hc i hi⟩
theorem StrsAt.kept {p : Nat → Prop} {w w' : World} (hk : Kept p w w') {a n f} (ha : ∀ x, a = some x → p x.block) (h : StrsAt w a n f) : StrsAt w' a n f := fun h0 => by
  obtain ⟨b, off, rfl, hc⟩ := h h0
  exact ⟨b, off, rfl, fun i hi => by rw [hk.cell (ha _ rfl)]; exact hc i hi⟩
theorem UpsAt.kept {p : Nat → Prop} {w w' : World} (hk : Kept p w w') {a n l f} (ha : ∀ x, a = some x → p x.block) (h : UpsAt w a n l f) : UpsAt w' a n l f := fun h0 => by
  obtain ⟨b, off, rfl, hc⟩ := h h0
  exact ⟨b, off, rfl, fun i hi => by rw [hk.cell (ha _ rfl), hk.cell (ha _ rfl)]; exact hc i hi⟩

theorem size_set {cur : Array Value} {i : Nat} {v : Value} : (cur.setIfInBounds i v).size = cur.size := by simp
theorem get_set_same {cur : Array Value} {i : Nat} {v : Value} (h : i < cur.size) : (cur.setIfInBounds i v)[i]? = some v := by simp [h]
theorem get_set_other {cur : Array Value} {i j : Nat} {v : Value} (h : i ≠ j) : (cur.setIfInBounds i v)[j]? = cur[j]? := by simp [h]

theorem info_int : (Tryz.prog.info? 3).map (fun i => (i.zero, i.size, i.bytes)) = some (some (.int .i64 0), 1, 8) := by kernel_rfl
theorem info_string : (Tryz.prog.info? 9).map (fun i => (i.zero, i.size, i.bytes)) = some (some (.string ByteArray.empty), 1, 16) := by kernel_rfl

theorem run_make_ints (n : Nat) (hn : n ≤ 1048576) (w : World) :
    (Instr.makeSlice 65 (.int .i64 n) (.int .i64 n)).run Tryz.prog w = .ok (.slice (some ⟨w.heap.size, 0, none⟩) n n) (w.alloc (.cells (madeCells #[.int .i64 0] n) 3)) := by
  obtain ⟨i0, hi, hz0, hz1, hz2⟩ := info_parts info_int
  have := run_make (P := Tryz.prog) w 65 3 i0 _ Tryz.underlying65 hi hz0 .i64 .i64 n n (by omega) (by omega) (by rw [hz2]; omega) (by omega)
  simpa [hz1, Value.cells] using this
theorem run_make_strs (n : Nat) (hn : n ≤ 1048576) (w : World) :
    (Instr.makeSlice 53 (.int .i64 n) (.int .i64 n)).run Tryz.prog w = .ok (.slice (some ⟨w.heap.size, 0, none⟩) n n) (w.alloc (.cells (madeCells #[.string ByteArray.empty] n) 9)) := by
  obtain ⟨i0, hi, hz0, hz1, hz2⟩ := info_parts info_string
  have := run_make (P := Tryz.prog) w 53 9 i0 _ Tryz.underlying53 hi hz0 .i64 .i64 n n (by omega) (by omega) (by rw [hz2]; omega) (by omega)
  simpa [hz1, Value.cells] using this

set_option maxHeartbeats 400000 in
theorem toIntS_any (a : Option Addr) (n c : Nat) (f : Nat → Int) (w : World) (hn : n ≤ 1048576) (ha : IntsAt w a n f) :
    Calls Tryz.prog 84 #[.slice a n c] w fun e w' => ∃ a', e = .returned (.slice a' n n) ∧ Onw w w' ∧ IntsAt w' a' n f ∧ Frm w.heap.size a' := by
  have hmk := run_make_ints n hn
  go_enter Tryz.func84, Tryz.ntmps84
  go_wp2
  go_loopw [4] (fun i wr => ∃ k : Nat, k ≤ n ∧ i = .int .i64 k ∧ Onw w wr ∧ ∃ cur, Blk wr w.heap.size 3 cur ∧ cur.size = n ∧ ∀ i, i < k → cur[i]? = some (.int .i64 (f i))) (fun i _ => n - (intOf i).toNat)
  case atStart => exact ⟨0, Nat.zero_le _, rfl, Onw.alloc _ _, _, Blk.new _ _ _, by simp [size_madeCells], fun i hi => by omega⟩
  case round =>
    obtain ⟨k, hk, rfl, hb, cur, hbl, hsz, hcur⟩ := hrel
    have HC : Hid _ := hcur
    have HS : Hid _ := hsz
    clear hcur hmk hsz
    by_cases hlt : k < n
    · obtain ⟨b, off, rfl, hc⟩ := ha.onw hb (by omega)
      have hck := hc k hlt
      have hf := hbl.free k
      have hg : wr.cell? ⟨w.heap.size, k, none⟩ = some (cur[k]'(by rw [HS.out]; exact hlt)) := by rw [hbl.cell]; simp [HS.out, hlt]
      clear hc
      go_wp2
      go_roundw
      case rel =>
        refine ⟨k + 1, by omega, by go_num, ?_, _, hbl.set k _, by rw [size_set]; exact HS.out, fun i hi => ?_⟩
        · exact hb.setCell (Nat.le_refl _) _
        · by_cases e : k = i
          · subst e; rw [get_set_same (by rw [HS.out]; exact hlt)]
          · rw [get_set_other e]; exact HC.out i (by omega)
      case measure => simp [intOf]; omega
    · go_wp2
      go_ret
      have : k = n := by omega
      subst this
      refine ⟨_, rfl, hb, fun _ => ⟨_, 0, rfl, fun i hi => ?_⟩, fun x hx => by cases hx; exact Nat.le_refl _⟩
      rw [hbl.cell]; simpa using HC.out i hi

set_option maxHeartbeats 400000 in
theorem toStringS_any (a : Option Addr) (n c : Nat) (f : Nat → ByteArray) (w : World) (hn : n ≤ 1048576) (ha : StrsAt w a n f) :
    Calls Tryz.prog 54 #[.slice a n c] w fun e w' => ∃ a', e = .returned (.slice a' n n) ∧ Onw w w' ∧ StrsAt w' a' n f ∧ Frm w.heap.size a' := by
  have hmk := run_make_strs n hn
  go_enter Tryz.func54, Tryz.ntmps54
  go_wp2
  go_loopw [4] (fun i wr => ∃ k : Nat, k ≤ n ∧ i = .int .i64 k ∧ Onw w wr ∧ ∃ cur, Blk wr w.heap.size 9 cur ∧ cur.size = n ∧ ∀ i, i < k → cur[i]? = some (.string (f i))) (fun i _ => n - (intOf i).toNat)
  case atStart => exact ⟨0, Nat.zero_le _, rfl, Onw.alloc _ _, _, Blk.new _ _ _, by simp [size_madeCells], fun i hi => by omega⟩
  case round =>
    obtain ⟨k, hk, rfl, hb, cur, hbl, hsz, hcur⟩ := hrel
    have HC : Hid _ := hcur
    have HS : Hid _ := hsz
    clear hcur hmk hsz
    by_cases hlt : k < n
    · obtain ⟨b, off, rfl, hc⟩ := ha.onw hb (by omega)
      have hck := hc k hlt
      have hf := hbl.free k
      have hg : wr.cell? ⟨w.heap.size, k, none⟩ = some (cur[k]'(by rw [HS.out]; exact hlt)) := by rw [hbl.cell]; simp [HS.out, hlt]
      clear hc
      go_wp2
      go_roundw
      case rel =>
        refine ⟨k + 1, by omega, by go_num, ?_, _, hbl.set k _, by rw [size_set]; exact HS.out, fun i hi => ?_⟩
        · exact hb.setCell (Nat.le_refl _) _
        · by_cases e : k = i
          · subst e; rw [get_set_same (by rw [HS.out]; exact hlt)]
          · rw [get_set_other e]; exact HC.out i (by omega)
      case measure => simp [intOf]; omega
    · go_wp2
      go_ret
      have : k = n := by omega
      subst this
      refine ⟨_, rfl, hb, fun _ => ⟨_, 0, rfl, fun i hi => ?_⟩, fun x hx => by cases hx; exact Nat.le_refl _⟩
      rw [hbl.cell]; simpa using HC.out i hi

set_option maxHeartbeats 400000 in
theorem toUp_any (l : Bool) (i : Int) (w : World) :
    Calls Tryz.prog 78 #[.agg #[.bool l, .int .i64 i]] w fun e w' => e = .returned (.agg #[.bool l, .int .i64 i]) ∧ Onw w w' := by
  go_enter Tryz.func78, Tryz.ntmps78
  go_wp2
  exact bodyPost_ret (v := .agg #[.bool l, .int .i64 i]) (by simp [results, Tryz.results78, go_sem]) rfl ⟨rfl, ((Onw.alloc _ _).trans (Onw.alloc _ _)).trans (Onw.alloc _ _)⟩
end Go.Proofs.YtnokgdgikdgaeaaGreat

namespace Go.Proofs.YtnokgdgikdgaeaaGreat
open Go.RowKit

theorem bcell {W w1 : World} (hb : Onw W w1) : (∀ b o, b < W.heap.size → w1.cell? ⟨b, o, none⟩ = W.cell? ⟨b, o, none⟩) ∧ (∀ b o, b < W.heap.size → w1.frozen? ⟨b, o, none⟩ = W.frozen? ⟨b, o, none⟩) :=
  ⟨fun b o h => hb.cell (p := ⟨b, o, none⟩) h, fun b o h => hb.frozen (p := ⟨b, o, none⟩) h⟩

theorem Blk.kept {p : Nat → Prop} {w w' : World} (hk : Kept p w w') {g e cur} (hg : p g) (h : Blk w g e cur) : Blk w' g e cur := (hk g hg).trans h

theorem Kept.refl (p : Nat → Prop) (w : World) : Kept p w w := fun _ _ => rfl
theorem Kept.setCell {p : Nat → Prop} {a w : World} (h : Kept p a w) {x : Addr} (hx : ¬ p x.block) (v : Value) : Kept p a (w.setCell x v) :=
  fun k hk => (Below.heap_setCell _ _ _ _ (fun e => hx (e ▸ hk))).trans (h k hk)

theorem Kept.set {p : Nat → Prop} {a w : World} (h : Kept p a w) {b o : Nat} (hx : ¬ p b) (v : Value) : Kept p a (w.setCell ⟨b, o, none⟩ v) := h.setCell hx v
theorem below_set {B : Nat} {a w : World} (h : Below B a w) {b o : Nat} (hp : B ≤ b) (v : Value) : Below B a (w.setCell ⟨b, o, none⟩ v) := h.setCell hp v

theorem run_store_float (P : Program) (w : World) (a : Addr) (m : Mode) (k : FloatKind) (b : Nat) : (store a (.float k b) m).run P w = stored P w a (.float k b) m := run_store P w a _ m rfl
attribute [local go_sem] run_store_float

set_option maxHeartbeats 1000000 in
theorem toNode_any (m : NM) (w : World) (hr : m.nr ≤ 1048576) (hk : m.nk ≤ 1048576) (ha : m.At w) :
    Calls Tryz.prog 79 #[.agg #[.int .i64 m.kind, .int .i64 m.line, .int .i64 m.op, .int .i64 m.num, .float .f64 m.flt, .string m.str, .slice m.ra m.nr m.rc, .slice m.ka m.nk m.kc]] w fun e w' => ∃ a' a'', e = .returned (.agg #[.int .i64 m.kind, .int .i64 m.line, .int .i64 m.op, .int .i64 m.num, .float .f64 m.flt, .string m.str, .slice a' m.nr m.nr, .slice a'' m.nk m.nk]) ∧ Onw w w' ∧ IntsAt w' a' m.nr m.rf ∧ IntsAt w' a'' m.nk m.kd ∧ Frm w.heap.size a' ∧ Frm w.heap.size a'' := by
  obtain ⟨a1, a2⟩ := ha
  go_enter Tryz.func79, Tryz.ntmps79
  go_wp2_with fail
  have o3 := ((Onw.alloc w (Obj.cells #[.int .i64 m.kind, .int .i64 m.line, .int .i64 m.op, .int .i64 m.num, .float .f64 m.flt, .string m.str, .slice m.ra m.nr m.rc, .slice m.ka m.nk m.kc] 135)).trans (Onw.alloc _ (Obj.cells #[.int .i64 0, .int .i64 0, .int .i64 0, .int .i64 0, .float .f64 0, .string ByteArray.empty, .slice none 0 0, .slice none 0 0] 71))).trans (Onw.alloc _ (Obj.cells #[.int .i64 m.kind, .int .i64 m.line, .int .i64 m.op, .int .i64 m.num, .float .f64 m.flt, .string m.str, .slice none 0 0, .slice none 0 0] 71))
  refine (toIntS_any _ _ _ m.rf _ hr (by exact a1.onw o3)).mono ?_
  rintro e w1 ⟨a', rfl, hb1, hi1, hf1⟩
  have ob : Onw w w1 := Onw.trans o3 hb1
  have B0 := (Blk.new w 135 #[.int .i64 m.kind, .int .i64 m.line, .int .i64 m.op, .int .i64 m.num, .float .f64 m.flt, .string m.str, .slice m.ra m.nr m.rc, .slice m.ka m.nk m.kc]).onw (((Onw.alloc _ _).trans (Onw.alloc _ _)).trans hb1)
  have B1 := Blk.onw ((Onw.alloc _ _).trans hb1) (Blk.new _ 71 _)
  have B2 := Blk.onw hb1 (Blk.new _ 71 _)
  have hz : w.heap.size + 1 + 1 < w1.heap.size := by have := hb1.size; simp at this; omega
  simp only [World.size_alloc] at B1 B2 hf1
  clear hb1 o3
  have c0 := B0.cell
  have c2 := B2.cell
  have f2 := B2.free
  go_wp2_with fail
  have ob2 : Onw w (w1.setCell ⟨w.heap.size + 1 + 1, 6, none⟩ (.slice a' m.nr m.nr)) := Below.setCell ob (by simp; omega) _
  have B0' := Blk.kept (kept_setCell w1 (w.heap.size + 1 + 1) 6 (.slice a' m.nr m.nr)) (by omega) B0
  have B1' := Blk.kept (kept_setCell w1 (w.heap.size + 1 + 1) 6 (.slice a' m.nr m.nr)) (by omega) B1
  have B2' := B2.set 6 (.slice a' m.nr m.nr)
  have hi1' := hi1.kept (kept_setCell w1 (w.heap.size + 1 + 1) 6 (.slice a' m.nr m.nr)) (fun x hx => by have := hf1 x hx; omega)
  clear hi1 B0 B1 B2 c0 c2 f2
  refine (toIntS_any _ _ _ m.kd _ hk (by exact a2.onw ob2)).mono ?_
  rintro e w2 ⟨a'', rfl, hb2, hi2, hf2⟩
  have hz2 : w.heap.size + 1 + 1 < w2.heap.size := by have := hb2.size; simp at this; omega
  have B1 := Blk.onw hb2 B1'
  have B2 := Blk.onw hb2 B2'
  have i1 := hi1'.onw hb2
  have ob3 := ob2.trans hb2
  simp only [World.size_setCell] at hf2
  clear hb2 hi1' B0' B1' B2' ob2 ob
  have c2 := B2.cell
  have f2 := B2.free
  have c1 := B1.cell
  have f1 := B1.free
  go_wp2_with fail
  refine bodyPost_ret (v := .agg #[.int .i64 m.kind, .int .i64 m.line, .int .i64 m.op, .int .i64 m.num, .float .f64 m.flt, .string m.str, .slice a' m.nr m.nr, .slice a'' m.nk m.nk]) (by simp [results, Tryz.results79, go_sem, c1]) rfl ⟨a', a'', rfl, ?_, ?_, ?_, ?_, ?_⟩
  · iterate 9 (refine below_set ?_ (by omega) _)
    exact ob3
  · refine IntsAt.kept (p := fun k => w.heap.size + 1 + 1 < k) ?_ (fun x hx => by have := hf1 x hx; omega) i1
    iterate 9 (refine Kept.set ?_ (by show ¬ _ < _; omega) _)
    exact Kept.refl _ _
  · refine IntsAt.kept (p := fun k => w.heap.size + 1 + 1 < k) ?_ (fun x hx => by have := hf2 x hx; omega) hi2
    iterate 9 (refine Kept.set ?_ (by show ¬ _ < _; omega) _)
    exact Kept.refl _ _
  · exact hf1.mono (by omega)
  · exact hf2.mono (by omega)
end Go.Proofs.YtnokgdgikdgaeaaGreat
