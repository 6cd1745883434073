import Derived.Test.YtnokgdgikdgaeaaGreatP00
namespace Go.Proofs.YtnokgdgikdgaeaaGreat
open Go.RowKit
attribute [local go_sem] run_store_float

def setL (cur : Array Value) (o : Nat) : List Value → Array Value
  | [] => cur
  | v :: r => setL (cur.setIfInBounds o v) (o + 1) r
theorem size_setL : ∀ (vs : List Value) (cur : Array Value) (o : Nat), (setL cur o vs).size = cur.size
  | [], _, _ => rfl
  | v :: r, cur, o => by rw [setL, size_setL r]; simp
theorem get_setL_out : ∀ (vs : List Value) (cur : Array Value) (o i : Nat), i < o ∨ o + vs.length ≤ i → (setL cur o vs)[i]? = cur[i]?
  | [], _, _, _, _ => rfl
  | v :: r, cur, o, i, h => by
    rw [setL, get_setL_out r _ _ _ (by simp at h; omega), get_set_other]
    simp at h; omega
theorem get_setL_in : ∀ (vs : List Value) (cur : Array Value) (o j : Nat), o + vs.length ≤ cur.size → j < vs.length → (setL cur o vs)[o + j]? = vs[j]?
  | v :: r, cur, o, 0, h, _ => by
    have ho : o < cur.size := by simp at h; omega
    rw [setL, get_setL_out r _ _ _ (by omega)]; simp [ho]
  | v :: r, cur, o, j + 1, h, hj => by
    have := get_setL_in r (cur.setIfInBounds o v) (o + 1) j (by simp at h; simp; omega) (by simpa using hj)
    rw [setL, show o + (j + 1) = o + 1 + j from by omega, this]; simp
theorem Blk.setL {g : Nat} {e : TypeId} : ∀ (vs : List Value) (w : World) (cur : Array Value) (o : Nat), Blk w g e cur → Blk (w.setCells g o vs) g e (setL cur o vs)
  | [], _, _, _, h => h
  | v :: r, _, _, o, h => Blk.setL r _ _ (o + 1) (h.set o v)
theorem below_setL {B g : Nat} (hg : B ≤ g) : ∀ (vs : List Value) (a w : World) (o : Nat), Below B a w → Below B a (w.setCells g o vs)
  | [], _, _, _, h => h
  | v :: r, _, _, o, h => below_setL hg r _ _ (o + 1) (below_set h hg v)
theorem kept_setL {g : Nat} : ∀ (vs : List Value) (w : World) (o : Nat), Kept (· ≠ g) w (w.setCells g o vs)
  | [], _, _ => Kept.refl _ _
  | v :: r, w, o => (kept_setCell w g o v).trans (kept_setL r _ (o + 1))

theorem Blk.some {w : World} {g : Nat} {e : TypeId} {cur : Array Value} (h : Blk w g e cur) {j : Nat} (hj : j < cur.size) : ∃ v, w.cell? ⟨g, j, none⟩ = some v :=
  ⟨cur[j], by rw [h.cell]; simp [hj]⟩

theorem info_up : (Tryz.prog.info? 117).map (fun i => (i.zero, i.size, i.bytes)) = some (some (.agg #[.bool false, .int .i64 0]), 2, 16) := by kernel_rfl
theorem run_make_ups (n : Nat) (hn : n ≤ 1048576) (w : World) :
    (Instr.makeSlice 58 (.int .i64 n) (.int .i64 n)).run Tryz.prog w = .ok (.slice (some ⟨w.heap.size, 0, none⟩) n n) (w.alloc (.cells (madeCells #[.bool false, .int .i64 0] (n * 2)) 117)) := by
  obtain ⟨i0, hi, hz0, hz1, hz2⟩ := info_parts info_up
  have := run_make (P := Tryz.prog) w 58 117 i0 _ Tryz.underlying58 hi hz0 .i64 .i64 n n (by omega) (by omega) (by rw [hz2]; omega) (by omega)
  simpa [hz1, Value.cells] using this

set_option maxHeartbeats 400000 in
theorem toUpS_any (a : Option Addr) (n c : Nat) (l : Nat → Bool) (f : Nat → Int) (w : World) (hn : n ≤ 1048576) (ha : UpsAt w a n l f) :
    Calls Tryz.prog 55 #[.slice a n c] w fun e w' => ∃ a', e = .returned (.slice a' n n) ∧ Onw w w' ∧ UpsAt w' a' n l f ∧ Frm w.heap.size a' := by
  have hmk := run_make_ups n hn
  go_enter Tryz.func55, Tryz.ntmps55
  go_wp2
  go_loopw [4] (fun i wr => ∃ k : Nat, k ≤ n ∧ i = .int .i64 k ∧ Onw w wr ∧ ∃ cur, Blk wr w.heap.size 117 cur ∧ cur.size = n * 2 ∧ ∀ i, i < k → cur[i * 2 + 0]? = some (.bool (l i)) ∧ cur[i * 2 + 1]? = some (.int .i64 (f i))) (fun i _ => n - (intOf i).toNat)
  case atStart => exact ⟨0, Nat.zero_le _, rfl, Onw.alloc _ _, _, Blk.new _ _ _, by simp [size_madeCells], fun i hi => by omega⟩
  case round =>
    obtain ⟨k, hk, rfl, hb, cur, hbl, hsz, hcur⟩ := hrel
    have HC : Hid _ := hcur
    have HS : Hid _ := hsz
    clear hcur hmk hsz
    by_cases hlt : k < n
    · obtain ⟨b, off, rfl, hc⟩ := ha.onw hb (by omega)
      obtain ⟨h1, h2⟩ := hc k hlt
      clear hc
      go_wp2_with fail
      refine (toUp_any _ _ _).mono ?_
      rintro e w1 ⟨rfl, hb1⟩
      have hbl1 := hbl.onw hb1
      have hf := hbl1.free
      have hz : w.heap.size < w1.heap.size := hbl1.lt
      obtain ⟨x0, g0⟩ := hbl1.some (j := k * 2) (by rw [HS.out]; omega)
      obtain ⟨x1, g1⟩ := hbl1.some (j := k * 2 + 1) (by rw [HS.out]; omega)
      clear h1 h2
      go_wp2_with fail
      go_roundw
      case rel =>
        refine ⟨k + 1, by omega, by go_num, below_setL (Nat.le_refl _) [.bool (l k), .int .i64 (f k)] _ _ (k * 2) (hb.trans hb1), _, Blk.setL [.bool (l k), .int .i64 (f k)] _ _ (k * 2) hbl1, by rw [size_setL]; exact HS.out, fun i hi => ?_⟩
        by_cases e : i = k
        · subst e
          have hs := HS.out
          exact ⟨(get_setL_in _ _ _ 0 (by simp; omega) (by simp)).trans rfl, (get_setL_in _ _ _ 1 (by simp; omega) (by simp)).trans rfl⟩
        · rw [get_setL_out _ _ _ _ (by simp; omega), get_setL_out _ _ _ _ (by simp; omega)]
          exact HC.out i (by omega)
      case measure => simp [intOf]; omega
    · go_wp2
      go_ret
      have : k = n := by omega
      subst this
      refine ⟨_, rfl, hb, fun _ => ⟨_, 0, rfl, fun i hi => ?_⟩, fun x hx => by cases hx; exact Nat.le_refl _⟩
      rw [hbl.cell, hbl.cell]; simpa using HC.out i hi

theorem info_node : (Tryz.prog.info? 71).map (fun i => (i.zero, i.size, i.bytes)) = some (some (.agg #[.int .i64 0, .int .i64 0, .int .i64 0, .int .i64 0, .float .f64 0, .string ByteArray.empty, .slice none 0 0, .slice none 0 0]), 8, 104) := by kernel_rfl
theorem run_make_nodes (n : Nat) (hn : n ≤ 1048576) (w : World) :
    (Instr.makeSlice 59 (.int .i64 n) (.int .i64 n)).run Tryz.prog w = .ok (.slice (some ⟨w.heap.size, 0, none⟩) n n) (w.alloc (.cells (madeCells #[.int .i64 0, .int .i64 0, .int .i64 0, .int .i64 0, .float .f64 0, .string ByteArray.empty, .slice none 0 0, .slice none 0 0] (n * 8)) 71)) := by
  obtain ⟨i0, hi, hz0, hz1, hz2⟩ := info_parts info_node
  have := run_make (P := Tryz.prog) w 59 71 i0 _ Tryz.underlying59 hi hz0 .i64 .i64 n n (by omega) (by omega) (by rw [hz2]; omega) (by omega)
  simpa [hz1, Value.cells] using this

/-- Where the lists of a node lie: from block B on. -/
def NM.Frm (B : Nat) (m : NM) : Prop := YtnokgdgikdgaeaaGreat.Frm B m.ra ∧ YtnokgdgikdgaeaaGreat.Frm B m.ka
theorem NM.Frm.mono {B B' : Nat} {m : NM} (h : m.Frm B) (hb : B' ≤ B) : m.Frm B' := ⟨h.1.mono hb, h.2.mono hb⟩
theorem NM.At.kept {p : Nat → Prop} {w w' : World} (hk : Kept p w w') {m : NM} (hr : ∀ x, m.ra = some x → p x.block) (hk' : ∀ x, m.ka = some x → p x.block) (h : m.At w) : m.At w' := ⟨h.1.kept hk hr, h.2.kept hk hk'⟩

/-- A node's cells in an array. -/
def NodeIn (cur : Array Value) (o : Nat) (m : NM) : Prop := ∀ j, j < 8 → cur[o + j]? = m.val[j]?

theorem NodeIn.cells {w : World} {g : Nat} {e : TypeId} {cur : Array Value} (hb : Blk w g e cur) {o : Nat} {m : NM} (h : NodeIn cur o m) : NodeCells w g o m :=
  ⟨(hb.cell _).trans (h 0 (by omega)), (hb.cell _).trans (h 1 (by omega)), (hb.cell _).trans (h 2 (by omega)), (hb.cell _).trans (h 3 (by omega)), (hb.cell _).trans (h 4 (by omega)), (hb.cell _).trans (h 5 (by omega)), (hb.cell _).trans (h 6 (by omega)), (hb.cell _).trans (h 7 (by omega))⟩

structure NodesRel (wr : World) (g n k : Nat) (nm nm' : Nat → NM) (cur : Array Value) : Prop where
  blk : Blk wr g 71 cur
  size : cur.size = n * 8
  data : ∀ i, (nm' i).toND = (nm i).toND
  cells : ∀ i, i < k → NodeIn cur (i * 8) (nm' i)
  lies : ∀ i, i < k → (nm' i).At wr
  frm : ∀ i, i < k → (nm' i).Frm (g + 1)

theorem NodesRel.step {wr w1 : World} {g n k : Nat} {nm nm' : Nat → NM} {cur : Array Value} (R : NodesRel wr g n k nm nm' cur) (hkn : k < n) (hb : Onw wr w1) (a' a'' : Option Addr)
    (i1 : IntsAt w1 a' (nm k).nr (nm k).rf) (i2 : IntsAt w1 a'' (nm k).nk (nm k).kd) (f1 : Frm wr.heap.size a') (f2 : Frm wr.heap.size a'') :
    ∃ nm'' cur', NodesRel (w1.setCells g (k * 8) [.int .i64 (nm k).kind, .int .i64 (nm k).line, .int .i64 (nm k).op, .int .i64 (nm k).num, .float .f64 (nm k).flt, .string (nm k).str, .slice a' (nm k).nr (nm k).nr, .slice a'' (nm k).nk (nm k).nk]) g n (k + 1) nm nm'' cur' := by
  obtain ⟨h1, h2, h3, h4, h5, h6⟩ := R
  have hlt := h1.lt
  refine ⟨fun i => if i = k then ⟨(nm k).toND, a', (nm k).nr, a'', (nm k).nk⟩ else nm' i, _, Blk.setL _ _ _ (k * 8) (h1.onw hb), ?_, ?_, ?_, ?_, ?_⟩
  · rw [size_setL]; exact h2
  · intro i
    by_cases e : i = k
    · subst e; simp
    · simp [e]; exact h3 i
  · intro i hi j hj
    by_cases e : i = k
    · subst e
      simp only [if_true]
      rw [get_setL_in _ _ _ _ (by simp; omega) (by simpa using hj)]
      simp [NM.val]
    · simp only [e, if_false]
      rw [get_setL_out _ _ _ _ (by simp; omega)]
      exact h4 i (by omega) j hj
  · intro i hi
    by_cases e : i = k
    · subst e
      simp only [if_true]
      exact NM.At.kept (kept_setL _ _ _) (fun x hx => by have := f1 x hx; omega) (fun x hx => by have := f2 x hx; omega) ⟨i1, i2⟩
    · simp only [e, if_false]
      have := h6 i (by omega)
      exact NM.At.kept (kept_setL _ _ _) (fun x hx => by have := this.1 x hx; omega) (fun x hx => by have := this.2 x hx; omega) ((h5 i (by omega)).onw hb)
  · intro i hi
    by_cases e : i = k
    · subst e
      simp only [if_true]
      exact ⟨f1.mono (by omega), f2.mono (by omega)⟩
    · simp only [e, if_false]
      exact h6 i (by omega)

set_option maxHeartbeats 1000000 in
theorem toNodeS_any (a : Option Addr) (n c : Nat) (nm : Nat → NM) (w : World) (hn : n ≤ 1048576) (hs : ∀ i, i < n → (nm i).nr ≤ 1048576 ∧ (nm i).nk ≤ 1048576) (ha : NodesAt w a n nm) :
    Calls Tryz.prog 56 #[.slice a n c] w fun e w' => ∃ a' nm', e = .returned (.slice a' n n) ∧ Onw w w' ∧ NodesAt w' a' n nm' ∧ (∀ i, (nm' i).toND = (nm i).toND) ∧ Frm w.heap.size a' ∧ ∀ i, i < n → (nm' i).Frm w.heap.size := by
  have hmk := run_make_nodes n hn
  go_enter Tryz.func56, Tryz.ntmps56
  go_wp2
  go_loopw [4] (fun i wr => ∃ k : Nat, k ≤ n ∧ i = .int .i64 k ∧ Onw w wr ∧ ∃ nm' cur, NodesRel wr w.heap.size n k nm nm' cur) (fun i _ => n - (intOf i).toNat)
  case atStart => exact ⟨0, Nat.zero_le _, rfl, Onw.alloc _ _, nm, _, Blk.new _ _ _, by simp [size_madeCells], fun i => rfl, fun i hi => by omega, fun i hi => by omega, fun i hi => by omega⟩
  case round =>
    obtain ⟨k, hk, rfl, hb, nm', cur, R⟩ := hrel
    clear hmk
    by_cases hlt : k < n
    · obtain ⟨b, off, rfl, hc⟩ := (ha.onw hb).1 (by omega)
      obtain ⟨c0, c1, c2, c3, c4, c5, c6, c7⟩ := hc k hlt
      have hsk := hs k hlt
      have HS : Hid _ := hs
      clear hc hs
      go_wp2_with fail
      refine (toNode_any (nm k) _ hsk.1 hsk.2 ((ha.2 k hlt).onw hb)).mono ?_
      rintro e w1 ⟨a', a'', rfl, hb1, i1, i2, f1, f2⟩
      have hbl1 := R.blk.onw hb1
      have hf := hbl1.free
      have hz : w.heap.size < w1.heap.size := hbl1.lt
      obtain ⟨nm'', cur', R'⟩ := R.step hlt hb1 a' a'' i1 i2 f1 f2
      have hsz := R.size
      obtain ⟨x0, g0⟩ := hbl1.some (j := k * 8) (by omega)
      obtain ⟨x1, g1⟩ := hbl1.some (j := k * 8 + 1) (by omega)
      obtain ⟨x2, g2⟩ := hbl1.some (j := k * 8 + 2) (by omega)
      obtain ⟨x3, g3⟩ := hbl1.some (j := k * 8 + 3) (by omega)
      obtain ⟨x4, g4⟩ := hbl1.some (j := k * 8 + 4) (by omega)
      obtain ⟨x5, g5⟩ := hbl1.some (j := k * 8 + 5) (by omega)
      obtain ⟨x6, g6⟩ := hbl1.some (j := k * 8 + 6) (by omega)
      obtain ⟨x7, g7⟩ := hbl1.some (j := k * 8 + 7) (by omega)
      clear c0 c1 c2 c3 c4 c5 c6 c7 hsz
      go_wp2_with fail
      go_roundw
      case rel => exact ⟨k + 1, by omega, by go_num, below_setL (Nat.le_refl _) [_, _, _, _, _, _, _, _] _ _ (k * 8) (hb.trans hb1), nm'', cur', R'⟩
      case measure => simp [intOf]; omega
    · go_wp2
      go_ret
      have : k = n := by omega
      subst this
      exact ⟨_, nm', rfl, hb, ⟨fun _ => ⟨_, 0, rfl, fun i hi => by rw [Nat.zero_add]; exact (R.cells i hi).cells R.blk⟩, R.lies⟩, R.data, fun x hx => by cases hx; exact Nat.le_refl _, fun i hi => (R.frm i hi).mono (by omega)⟩
end Go.Proofs.YtnokgdgikdgaeaaGreat

namespace Go.Proofs.YtnokgdgikdgaeaaGreat
open Go.RowKit
attribute [local go_sem] run_store_float

def FM.Frm (B : Nat) (m : FM) : Prop := YtnokgdgikdgaeaaGreat.Frm B m.va ∧ YtnokgdgikdgaeaaGreat.Frm B m.ua ∧ YtnokgdgikdgaeaaGreat.Frm B m.na ∧ ∀ i, i < m.nn → (m.nm i).Frm B
theorem FM.Frm.mono {B B' : Nat} {m : FM} (h : m.Frm B) (hb : B' ≤ B) : m.Frm B' := ⟨h.1.mono hb, h.2.1.mono hb, h.2.2.1.mono hb, fun i hi => (h.2.2.2 i hi).mono hb⟩

theorem NodeCells.kept {p : Nat → Prop} {w w' : World} (hk : Kept p w w') {b o m} (hb : p b) (h : NodeCells w b o m) : NodeCells w' b o m :=
  ⟨(hk.cell hb).trans h.c0, (hk.cell hb).trans h.c1, (hk.cell hb).trans h.c2, (hk.cell hb).trans h.c3, (hk.cell hb).trans h.c4, (hk.cell hb).trans h.c5, (hk.cell hb).trans h.c6, (hk.cell hb).trans h.c7⟩
theorem NodesAt.kept {p : Nat → Prop} {w w' : World} (hk : Kept p w w') {a n nm} (ha : ∀ x, a = some x → p x.block) (hn : ∀ i, i < n → (∀ x, (nm i).ra = some x → p x.block) ∧ ∀ x, (nm i).ka = some x → p x.block) (h : NodesAt w a n nm) : NodesAt w' a n nm :=
  ⟨fun h0 => by
    obtain ⟨b, off, rfl, hc⟩ := h.1 h0
    exact ⟨b, off, rfl, fun i hi => (hc i hi).kept hk (ha _ rfl)⟩, fun i hi => (h.2 i hi).kept hk (hn i hi).1 (hn i hi).2⟩
theorem FM.At.kept {p : Nat → Prop} {w w' : World} (hk : Kept p w w') {B : Nat} (hp : ∀ k, B ≤ k → p k) {m : FM} (hf : m.Frm B) (h : m.At w) : m.At w' :=
  ⟨h.1.kept hk fun x hx => hp _ (hf.1 x hx), h.2.1.kept hk fun x hx => hp _ (hf.2.1 x hx), h.2.2.kept hk (fun x hx => hp _ (hf.2.2.1 x hx)) fun i hi => ⟨fun x hx => hp _ ((hf.2.2.2 i hi).1 x hx), fun x hx => hp _ ((hf.2.2.2 i hi).2 x hx)⟩⟩

theorem FnCells.kept {p : Nat → Prop} {w w' : World} (hk : Kept p w w') {b o m} (hb : p b) (h : FnCells w b o m) : FnCells w' b o m :=
  ⟨(hk.cell hb).trans h.c0, (hk.cell hb).trans h.c1, (hk.cell hb).trans h.c2, (hk.cell hb).trans h.c3, (hk.cell hb).trans h.c4, (hk.cell hb).trans h.c5, (hk.cell hb).trans h.c6⟩
theorem FnsAt.kept {p : Nat → Prop} {w w' : World} (hk : Kept p w w') {B : Nat} (hp : ∀ k, B ≤ k → p k) {a n fm} (ha : Frm B a) (hf : ∀ i, i < n → (fm i).Frm B) (h : FnsAt w a n fm) : FnsAt w' a n fm :=
  ⟨fun h0 => by
    obtain ⟨b, off, rfl, hc⟩ := h.1 h0
    exact ⟨b, off, rfl, fun i hi => (hc i hi).kept hk (hp _ (ha _ rfl))⟩, fun i hi => (h.2 i hi).kept hk hp (hf i hi)⟩

set_option maxHeartbeats 2000000 in
theorem toFn_any (m : FM) (w : World) (hv : m.nv ≤ 1048576) (hu : m.nu ≤ 1048576) (hn : m.nn ≤ 1048576) (hs : ∀ i, i < m.nn → (m.nm i).nr ≤ 1048576 ∧ (m.nm i).nk ≤ 1048576) (ha : m.At w) :
    Calls Tryz.prog 37 #[.agg #[.string m.name, .int .i64 m.line, .int .i64 m.params, .bool m.rest, .slice m.va m.nv m.vc, .slice m.ua m.nu m.uc, .slice m.na m.nn m.nc]] w fun e w' => ∃ m' : FM, e = .returned (.agg #[.string m'.name, .int .i64 m'.line, .int .i64 m'.params, .bool m'.rest, .slice m'.va m'.nv m'.vc, .slice m'.ua m'.nu m'.uc, .slice m'.na m'.nn m'.nc]) ∧ Onw w w' ∧ m'.At w' ∧ m'.Frm w.heap.size ∧ m'.toFD = m.toFD := by
  obtain ⟨a1, a2, a3⟩ := ha
  have HS : Hid _ := hs
  clear hs
  go_enter Tryz.func37, Tryz.ntmps37
  go_wp2_with fail
  refine (toStringS_any _ _ _ m.vr _ hv (by exact a1.onw (((Onw.alloc _ _).trans (Onw.alloc _ _)).trans (Onw.alloc _ _)))).mono ?_
  rintro e w1 ⟨va, rfl, hb1, hi1, hf1⟩
  have ob : Onw w w1 := Onw.trans (((Onw.alloc _ _).trans (Onw.alloc _ _)).trans (Onw.alloc _ _)) hb1
  have B0 := (Blk.new w 57 #[.string m.name, .int .i64 m.line, .int .i64 m.params, .bool m.rest, .slice m.va m.nv m.vc, .slice m.ua m.nu m.uc, .slice m.na m.nn m.nc]).onw (((Onw.alloc _ _).trans (Onw.alloc _ _)).trans hb1)
  have B1 := Blk.onw ((Onw.alloc _ _).trans hb1) (Blk.new _ 61 _)
  have B2 := Blk.onw hb1 (Blk.new _ 61 _)
  have hz : w.heap.size + 1 + 1 < w1.heap.size := by have := hb1.size; simp at this; omega
  simp only [World.size_alloc] at B1 B2 hf1
  clear hb1
  have c0 := B0.cell
  have c2 := B2.cell
  have f2 := B2.free
  go_wp2_with fail
  have K1 := kept_setCell w1 (w.heap.size + 1 + 1) 4 (.slice va m.nv m.nv)
  have ob2 : Onw w (w1.setCell ⟨w.heap.size + 1 + 1, 4, none⟩ (.slice va m.nv m.nv)) := below_set ob (by omega) _
  have B0' := Blk.kept K1 (by omega) B0
  have B1' := Blk.kept K1 (by omega) B1
  have B2' := B2.set 4 (.slice va m.nv m.nv)
  have hi1' := hi1.kept K1 (fun x hx => by have := hf1 x hx; omega)
  clear hi1 B0 B1 B2 c0 c2 f2 K1
  refine (toUpS_any _ _ _ m.ul m.ui _ hu (by exact a2.onw ob2)).mono ?_
  rintro e w2 ⟨ua, rfl, hb2, hi2, hf2⟩
  have hz2 : w.heap.size + 1 + 1 < w2.heap.size := by have := hb2.size; simp at this; omega
  have B0 := Blk.onw hb2 B0'
  have B1 := Blk.onw hb2 B1'
  have B2 := Blk.onw hb2 B2'
  have i1 := hi1'.onw hb2
  have ob3 := ob2.trans hb2
  simp only [World.size_setCell] at hf2
  clear hb2 hi1' B0' B1' B2' ob2 ob
  have c0 := B0.cell
  have c2 := B2.cell
  have f2 := B2.free
  go_wp2_with fail
  have K2 := kept_setCell w2 (w.heap.size + 1 + 1) 5 (.slice ua m.nu m.nu)
  have ob4 : Onw w (w2.setCell ⟨w.heap.size + 1 + 1, 5, none⟩ (.slice ua m.nu m.nu)) := below_set ob3 (by omega) _
  have B1' := Blk.kept K2 (by omega) B1
  have B2' := B2.set 5 (.slice ua m.nu m.nu)
  have hi1' := i1.kept K2 (fun x hx => by have := hf1 x hx; omega)
  have hi2' := hi2.kept K2 (fun x hx => by have := hf2 x hx; omega)
  clear i1 hi2 B0 B1 B2 c0 c2 f2 K2 ob3
  refine (toNodeS_any _ _ _ m.nm _ hn HS.out (by exact a3.onw ob4)).mono ?_
  rintro e w3 ⟨na, nm', rfl, hb3, hi3, hd3, hf3, hg3⟩
  have hz3 : w.heap.size + 1 + 1 < w3.heap.size := by have := hb3.size; simp at this; omega
  have B1 := Blk.onw hb3 B1'
  have B2 := Blk.onw hb3 B2'
  have i1 := hi1'.onw hb3
  have i2 := hi2'.onw hb3
  have ob3 := ob4.trans hb3
  have HD : Hid _ := hd3
  simp only [World.size_setCell] at hf3 hg3
  have HG : Hid _ := hg3
  clear hb3 hi1' hi2' B1' B2' ob4 hd3 hg3
  have c2 := B2.cell
  have f2 := B2.free
  have c1 := B1.cell
  have f1 := B1.free
  go_wp2_with fail
  refine bodyPost_ret (v := .agg #[.string m.name, .int .i64 m.line, .int .i64 m.params, .bool m.rest, .slice va m.nv m.nv, .slice ua m.nu m.nu, .slice na m.nn m.nn]) (by simp [results, Tryz.results37, go_sem, c1]) rfl
    ⟨⟨m.name, m.line, m.params, m.rest, m.nv, m.vr, m.nu, m.ul, m.ui, m.nn, nm', va, m.nv, ua, m.nu, na, m.nn⟩, rfl, ?_, ?_, ?_, by simp only [FM.toFD]; congr 1; funext i; exact HD.out i⟩
  · iterate 8 (refine below_set ?_ (by omega) _)
    exact ob3
  · refine FM.At.kept (p := fun k => w.heap.size + 1 + 1 < k) (B := w.heap.size + 1 + 1 + 1) ?_ (fun k hk => by show _ < _; omega) ⟨hf1.mono (by omega), hf2.mono (by omega), hf3.mono (by omega), fun i hi => (HG.out i hi).mono (by omega)⟩ ⟨i1, i2, hi3⟩
    iterate 8 (refine Kept.set ?_ (by show ¬ _ < _; omega) _)
    exact Kept.refl _ _
  · exact ⟨hf1.mono (by omega), hf2.mono (by omega), hf3.mono (by omega), fun i hi => (HG.out i hi).mono (by omega)⟩

theorem info_fn : (Tryz.prog.info? 61).map (fun i => (i.zero, i.size, i.bytes)) = some (some (.agg #[.string ByteArray.empty, .int .i64 0, .int .i64 0, .bool false, .slice none 0 0, .slice none 0 0, .slice none 0 0]), 7, 112) := by kernel_rfl
theorem run_make_fns (n : Nat) (hn : n ≤ 1048576) (w : World) :
    (Instr.makeSlice 29 (.int .i64 n) (.int .i64 n)).run Tryz.prog w = .ok (.slice (some ⟨w.heap.size, 0, none⟩) n n) (w.alloc (.cells (madeCells #[.string ByteArray.empty, .int .i64 0, .int .i64 0, .bool false, .slice none 0 0, .slice none 0 0, .slice none 0 0] (n * 7)) 61)) := by
  obtain ⟨i0, hi, hz0, hz1, hz2⟩ := info_parts info_fn
  have := run_make (P := Tryz.prog) w 29 61 i0 _ Tryz.underlying29 hi hz0 .i64 .i64 n n (by omega) (by omega) (by rw [hz2]; omega) (by omega)
  simpa [hz1, Value.cells] using this

def FnIn (cur : Array Value) (o : Nat) (m : FM) : Prop := ∀ j, j < 7 → cur[o + j]? = m.val[j]?
theorem FnIn.cells {w : World} {g : Nat} {e : TypeId} {cur : Array Value} (hb : Blk w g e cur) {o : Nat} {m : FM} (h : FnIn cur o m) : FnCells w g o m :=
  ⟨(hb.cell _).trans (h 0 (by omega)), (hb.cell _).trans (h 1 (by omega)), (hb.cell _).trans (h 2 (by omega)), (hb.cell _).trans (h 3 (by omega)), (hb.cell _).trans (h 4 (by omega)), (hb.cell _).trans (h 5 (by omega)), (hb.cell _).trans (h 6 (by omega))⟩

structure FnsRel (wr : World) (g n k : Nat) (fm fm' : Nat → FM) (cur : Array Value) : Prop where
  blk : Blk wr g 61 cur
  size : cur.size = n * 7
  data : ∀ i, (fm' i).toFD = (fm i).toFD
  cells : ∀ i, i < k → FnIn cur (i * 7) (fm' i)
  lies : ∀ i, i < k → (fm' i).At wr
  frm : ∀ i, i < k → (fm' i).Frm (g + 1)

theorem FnsRel.step {wr w1 : World} {g n k : Nat} {fm fm' : Nat → FM} {cur : Array Value} (R : FnsRel wr g n k fm fm' cur) (hkn : k < n) (hb : Onw wr w1) (m : FM)
    (hm : m.At w1) (hf : m.Frm wr.heap.size) (hd : m.toFD = (fm k).toFD) :
    ∃ fm'' cur', FnsRel (w1.setCells g (k * 7) [.string m.name, .int .i64 m.line, .int .i64 m.params, .bool m.rest, .slice m.va m.nv m.vc, .slice m.ua m.nu m.uc, .slice m.na m.nn m.nc]) g n (k + 1) fm fm'' cur' := by
  obtain ⟨h1, h2, h3, h4, h5, h6⟩ := R
  have hlt := h1.lt
  refine ⟨fun i => if i = k then m else fm' i, _, Blk.setL _ _ _ (k * 7) (h1.onw hb), ?_, ?_, ?_, ?_, ?_⟩
  · rw [size_setL]; exact h2
  · intro i
    by_cases e : i = k
    · subst e; simpa using hd
    · simp [e]; exact h3 i
  · intro i hi j hj
    by_cases e : i = k
    · subst e
      simp only [if_true]
      rw [get_setL_in _ _ _ _ (by simp; omega) (by simpa using hj)]
      simp [FM.val]
    · simp only [e, if_false]
      rw [get_setL_out _ _ _ _ (by simp; omega)]
      exact h4 i (by omega) j hj
  · intro i hi
    by_cases e : i = k
    · subst e
      simp only [if_true]
      exact FM.At.kept (kept_setL _ _ _) (B := wr.heap.size) (fun k hk => by omega) hf hm
    · simp only [e, if_false]
      exact FM.At.kept (kept_setL _ _ _) (B := g + 1) (fun k hk => by omega) (h6 i (by omega)) ((h5 i (by omega)).onw hb)
  · intro i hi
    by_cases e : i = k
    · subst e
      simp only [if_true]
      exact hf.mono (by omega)
    · simp only [e, if_false]
      exact h6 i (by omega)

/-- All lists within a bound. -/
def FM.Small (m : FM) : Prop := m.nv ≤ 1048576 ∧ m.nu ≤ 1048576 ∧ m.nn ≤ 1048576 ∧ ∀ i, i < m.nn → (m.nm i).nr ≤ 1048576 ∧ (m.nm i).nk ≤ 1048576

set_option maxHeartbeats 1000000 in
theorem toFnS_any (a : Option Addr) (n c : Nat) (fm : Nat → FM) (w : World) (hn : n ≤ 1048576) (hs : ∀ i, i < n → (fm i).Small) (ha : FnsAt w a n fm) :
    Calls Tryz.prog 14 #[.slice a n c] w fun e w' => ∃ a' fm', e = .returned (.slice a' n n) ∧ Onw w w' ∧ FnsAt w' a' n fm' ∧ (∀ i, (fm' i).toFD = (fm i).toFD) ∧ Frm w.heap.size a' ∧ ∀ i, i < n → (fm' i).Frm w.heap.size := by
  have hmk := run_make_fns n hn
  go_enter Tryz.func14, Tryz.ntmps14
  go_wp2
  go_loopw [4] (fun i wr => ∃ k : Nat, k ≤ n ∧ i = .int .i64 k ∧ Onw w wr ∧ ∃ fm' cur, FnsRel wr w.heap.size n k fm fm' cur) (fun i _ => n - (intOf i).toNat)
  case atStart => exact ⟨0, Nat.zero_le _, rfl, Onw.alloc _ _, fm, _, Blk.new _ _ _, by simp [size_madeCells], fun i => rfl, fun i hi => by omega, fun i hi => by omega, fun i hi => by omega⟩
  case round =>
    obtain ⟨k, hk, rfl, hb, fm', cur, R⟩ := hrel
    clear hmk
    by_cases hlt : k < n
    · obtain ⟨b, off, rfl, hc⟩ := (ha.onw hb).1 (by omega)
      obtain ⟨c0, c1, c2, c3, c4, c5, c6⟩ := hc k hlt
      have hsk := hs k hlt
      have HS : Hid _ := hs
      clear hc hs
      go_wp2_with fail
      refine (toFn_any (fm k) _ hsk.1 hsk.2.1 hsk.2.2.1 hsk.2.2.2 ((ha.2 k hlt).onw hb)).mono ?_
      rintro e w1 ⟨m, rfl, hb1, hm, hfr, hd⟩
      have hbl1 := R.blk.onw hb1
      have hf := hbl1.free
      have hz : w.heap.size < w1.heap.size := hbl1.lt
      obtain ⟨fm'', cur', R'⟩ := R.step hlt hb1 m hm hfr hd
      have hsz := R.size
      obtain ⟨x0, g0⟩ := hbl1.some (j := k * 7) (by omega)
      obtain ⟨x1, g1⟩ := hbl1.some (j := k * 7 + 1) (by omega)
      obtain ⟨x2, g2⟩ := hbl1.some (j := k * 7 + 2) (by omega)
      obtain ⟨x3, g3⟩ := hbl1.some (j := k * 7 + 3) (by omega)
      obtain ⟨x4, g4⟩ := hbl1.some (j := k * 7 + 4) (by omega)
      obtain ⟨x5, g5⟩ := hbl1.some (j := k * 7 + 5) (by omega)
      obtain ⟨x6, g6⟩ := hbl1.some (j := k * 7 + 6) (by omega)
      clear c0 c1 c2 c3 c4 c5 c6 hsz hd
      go_wp2_with fail
      go_roundw
      case rel => exact ⟨k + 1, by omega, by go_num, below_setL (Nat.le_refl _) [_, _, _, _, _, _, _] _ _ (k * 7) (hb.trans hb1), fm'', cur', R'⟩
      case measure => simp [intOf]; omega
    · go_wp2
      go_ret
      have : k = n := by omega
      subst this
      exact ⟨_, fm', rfl, hb, ⟨fun _ => ⟨_, 0, rfl, fun i hi => by rw [Nat.zero_add]; exact (R.cells i hi).cells R.blk⟩, R.lies⟩, R.data, fun x hx => by cases hx; exact Nat.le_refl _, fun i hi => (R.frm i hi).mono (by omega)⟩

set_option maxHeartbeats 1000000 in
theorem toUnit_any (m : UM) (w : World) (hn : m.nf ≤ 1048576) (hs : ∀ i, i < m.nf → (m.fm i).Small) (ha : m.At w) :
    Calls Tryz.prog 6 #[.agg #[.slice m.fa m.nf m.fc]] w fun e w' => ∃ m' : UM, e = .returned (.agg #[.slice m'.fa m'.nf m'.fc]) ∧ Onw w w' ∧ m'.At w' ∧ m'.toUD = m.toUD := by
  have HS : Hid _ := hs
  clear hs
  go_enter Tryz.func6, Tryz.ntmps6
  go_wp2_with fail
  refine (toFnS_any _ _ _ m.fm _ hn HS.out (by exact FnsAt.onw (((Onw.alloc _ _).trans (Onw.alloc _ _)).trans (Onw.alloc _ _)) ha)).mono ?_
  rintro e w1 ⟨fa, fm', rfl, hb1, hi1, hd, hf3, hg3⟩
  have ob : Onw w w1 := Onw.trans (((Onw.alloc _ _).trans (Onw.alloc _ _)).trans (Onw.alloc _ _)) hb1
  have B1 := Blk.onw ((Onw.alloc _ _).trans hb1) (Blk.new _ 31 _)
  have B2 := Blk.onw hb1 (Blk.new _ 31 _)
  have hz : w.heap.size + 1 + 1 < w1.heap.size := by have := hb1.size; simp at this; omega
  simp only [World.size_alloc] at B1 B2 hf3 hg3
  have HD : Hid _ := hd
  have HG : Hid _ := hg3
  clear hb1 hd hg3
  have c2 := B2.cell
  have f2 := B2.free
  have c1 := B1.cell
  have f1 := B1.free
  go_wp2_with fail
  refine bodyPost_ret (v := .agg #[.slice fa m.nf m.nf]) (by simp [results, Tryz.results6, go_sem, c1]) rfl ⟨⟨m.nf, fm', fa, m.nf⟩, rfl, ?_, ?_, by simp only [UM.toUD]; congr 1; funext i; exact HD.out i⟩
  · exact below_set (below_set ob (by omega) _) (by omega) _
  · refine FnsAt.kept (p := fun k => w.heap.size + 1 + 1 < k) (B := w.heap.size + 1 + 1 + 1) ?_ (fun k hk => by show _ < _; omega) (hf3.mono (by omega)) (fun i hi => (HG.out i hi).mono (by omega)) hi1
    exact ((Kept.refl _ _).set (by show ¬ _ < _; omega) _).set (by show ¬ _ < _; omega) _
end Go.Proofs.YtnokgdgikdgaeaaGreat

/- The model's own functions, as plain functions on data. -/
namespace Go.Proofs.YtnokgdgikdgaeaaGreat
open Go.RowKit

theorem ret_int {k : IntKind} {a b : Int} (h : a = b) : Ending.returned (.int k a) = .returned (.int k b) := by rw [h]
theorem ret_bool {a b : Bool} (h : a = b) : Ending.returned (.bool a) = .returned (.bool b) := by rw [h]

def statB (k : Int) : Bool := decide (1 ≤ k) && decide (k ≤ 14)
def exprB (k : Int) : Bool := decide (20 ≤ k) && decide (k ≤ 38)
def targetB (k : Int) : Bool := k == 26 || k == 27 || k == 33
def manyB (k : Int) : Bool := k == 34 || k == 37
def fzero (x : Nat) : Bool := FloatKind.f64.format.order x 0 == some .eq
def fnum (x : Nat) : Bool := FloatKind.f64.format.order x x == some .eq

def ndOf (nm : Nat → NM) : Nat → ND := fun i => (nm i).toND

def kidK (nd : Nat → ND) (at_ i : Nat) : Int :=
  if (nd at_).nk ≤ i then 0 else if (nd at_).kd i < 0 ∨ (at_ : Int) ≤ (nd at_).kd i then 0 else (nd ((nd at_).kd i).toNat).kind

/-- p holds from i on, for m places. -/
def allB (p : Nat → Bool) (i : Nat) : Nat → Bool
  | 0 => true
  | m + 1 => p i && allB p (i + 1) m

def exprsB (nd : Nat → ND) (at_ from_ to_ : Nat) : Bool := allB (fun i => exprB (kidK nd at_ i)) from_ (to_ - from_)

def bareB (d : ND) (op num flt str : Bool) (refs : Int) : Bool :=
  (op || d.op == 0) && (num || d.num == 0) && (flt || fzero d.flt) && (str || decide (d.str.toList = [])) && ((d.nr : Int) == refs)

theorem allB_iff (p : Nat → Bool) : ∀ (m i : Nat), allB p i m = true ↔ ∀ j, i ≤ j → j < i + m → p j = true
  | 0, i => by simp [allB]; intro j h1 h2; omega
  | m + 1, i => by
    rw [allB, Bool.and_eq_true, allB_iff p m (i + 1)]
    constructor
    · rintro ⟨h1, h2⟩ j h3 h4
      by_cases e : i = j
      · subst e; exact h1
      · exact h2 j (by omega) (by omega)
    · intro h
      exact ⟨h i (Nat.le_refl _) (by omega), fun j h1 h2 => h j (by omega) (by omega)⟩

def blockB (nd : Nat → ND) (at_ : Nat) : Bool := decide (0 < (nd at_).nk) && (kidK nd at_ ((nd at_).nk - 1) == 1)

def stmtB (nd : Nat → ND) (at_ : Nat) : Bool :=
  let d := nd at_
  if d.kind = 1 then allB (fun i => statB (kidK nd at_ i)) 0 d.nk && bareB d false false false false 0
  else if d.kind = 2 then decide (0 < d.nr) && bareB d false false false false d.nr && exprsB nd at_ 0 d.nk
  else if d.kind = 3 then decide (1 ≤ d.num) && decide (d.num < d.nk) && allB (fun i => targetB (kidK nd at_ i)) 0 d.num.toNat && bareB d false true false false 0 && exprsB nd at_ d.num.toNat d.nk
  else if d.kind = 4 ∨ d.kind = 14 then ((d.nk : Int) == 1) && kidK nd at_ 0 == 34 && bareB d false false false false 0
  else if d.kind = 5 then (((d.nk : Int) == 2) || ((d.nk : Int) == 3) && (kidK nd at_ 2 == 1 || kidK nd at_ 2 == 5)) && exprsB nd at_ 0 1 && kidK nd at_ 1 == 1 && bareB d false false false false 0
  else if d.kind = 6 then ((d.nk : Int) == 2) && exprsB nd at_ 0 1 && blockB nd at_ && bareB d false false false false 0
  else if d.kind = 7 then ((d.nk : Int) == 4) && exprsB nd at_ 0 3 && blockB nd at_ && bareB d false false false false 1
  else if d.kind = 8 then ((d.nk : Int) == 2) && decide (1 ≤ d.nr) && decide (d.nr ≤ 4) && exprsB nd at_ 0 1 && blockB nd at_ && bareB d false false false false d.nr
  else if d.kind = 9 ∨ d.kind = 10 then ((d.nk : Int) == 0) && bareB d false false false false 0
  else if d.kind = 11 then exprsB nd at_ 0 d.nk && bareB d false false false false 0
  else if d.kind = 12 then ((d.nk : Int) == 2) && kidK nd at_ 0 == 1 && blockB nd at_ && bareB d false false false false 2
  else if d.kind = 13 then ((d.nk : Int) == 1) && exprsB nd at_ 0 1 && bareB d false false false false 0
  else false

def spreadB (nd : Nat → ND) (at_ : Nat) : Bool :=
  (nd at_).op == 0 || (nd at_).op == 1 && decide ((2 : Int) ≤ (nd at_).nk) && kidK nd at_ ((nd at_).nk - 2) == 23 && manyB (kidK nd at_ ((nd at_).nk - 1))

def exprnB (nd : Nat → ND) (at_ : Nat) : Bool :=
  let d := nd at_
  let all := exprsB nd at_ 0 d.nk
  if d.kind = 20 ∨ d.kind = 21 ∨ d.kind = 22 ∨ d.kind = 37 then (d.nk : Int) == 0 && bareB d false false false false 0
  else if d.kind = 23 then (d.nk : Int) == 0 && bareB d false true false false 0
  else if d.kind = 24 then (d.nk : Int) == 0 && fnum d.flt && bareB d false false true false 0
  else if d.kind = 25 then (d.nk : Int) == 0 && decide (d.str.size ≤ 4000) && bareB d false false false true 0
  else if d.kind = 26 ∨ d.kind = 27 ∨ d.kind = 36 then (d.nk : Int) == 0 && bareB d false false false false 1
  else if d.kind = 28 then (d.nk : Int) == 0 && decide (0 ≤ d.num) && decide (d.num < 15) && bareB d false true false false 0
  else if d.kind = 29 ∨ d.kind = 30 ∨ d.kind = 33 then (d.nk : Int) == 2 && all && bareB d false false false false 0
  else if d.kind = 31 then (d.nk : Int) == 1 && all && decide (19 ≤ d.op) && decide (d.op ≤ 22) && bareB d true false false false 0
  else if d.kind = 32 then (d.nk : Int) == 2 && all && decide (1 ≤ d.op) && decide (d.op ≤ 18) && bareB d true false false false 0
  else if d.kind = 34 then decide (1 ≤ d.nk) && all && bareB d false false false false 0
  else if d.kind = 35 then (d.nk : Int) % 2 == 0 && all && spreadB nd at_ && bareB d true false false false 0
  else if d.kind = 38 then (d.nk : Int) == 1 && manyB (kidK nd at_ 0) && bareB d false false false false 0
  else false
end Go.Proofs.YtnokgdgikdgaeaaGreat

namespace Go.Proofs.YtnokgdgikdgaeaaGreat
open Go.RowKit

def kidsB (nd : Nat → ND) (at_ : Nat) (i : Nat) : Bool := decide (0 ≤ (nd at_).kd i) && decide ((nd at_).kd i < at_)

def shapeB (nd : Nat → ND) (at_ : Nat) : Bool :=
  decide ((nd at_).nk ≤ 200) && allB (kidsB nd at_) 0 (nd at_).nk &&
    (if statB (nd at_).kind then decide (1 ≤ (nd at_).line) && decide ((nd at_).line ≤ 100000) && stmtB nd at_ else (nd at_).line == 0 && exprnB nd at_)

/-- The place of v among the first n numbers from i on; -1 when it is not there. -/
def placeI (f : Nat → Int) (v : Int) (i : Nat) : Nat → Int
  | 0 => -1
  | m + 1 => if f i = v then i else placeI f v (i + 1) m

def declB (d : ND) (v : Int) : Bool := (d.kind == 2 || d.kind == 7 || d.kind == 8 || d.kind == 12) && decide (0 ≤ placeI d.rf v 0 d.nr)

def nameB (s : ByteArray) (least : Int) : Bool := decide (least ≤ (s.size : Int)) && decide ((s.size : Int) ≤ 40)

theorem placeI_ge (f : Nat → Int) (v : Int) : ∀ (m i : Nat), -1 ≤ placeI f v i m
  | 0, _ => by simp [placeI]
  | m + 1, i => by rw [placeI]; split; omega; exact placeI_ge f v m (i + 1)
theorem placeI_lt (f : Nat → Int) (v : Int) : ∀ (m i : Nat), placeI f v i m < ((i + m : Nat) : Int)
  | 0, i => by simp [placeI]; omega
  | m + 1, i => by rw [placeI]; split; omega; have := placeI_lt f v m (i + 1); omega
end Go.Proofs.YtnokgdgikdgaeaaGreat

namespace Go.Proofs.YtnokgdgikdgaeaaGreat
open Go.RowKit

/-- The parents, after j kids of node i. -/
def par1 (nd : Nat → ND) (par : Nat → Int) (i : Nat) : Nat → Nat → Int
  | 0 => par
  | j + 1 => fun k => if (k : Int) = (nd i).kd j then (if par1 nd par i j k = -2 then (i : Int) else -3) else par1 nd par i j k
/-- The parents, after i nodes. -/
def parN (nd : Nat → ND) : Nat → Nat → Int
  | 0 => fun _ => -2
  | i + 1 => par1 nd (parN nd i) i (nd i).nk
def parE (nd : Nat → ND) (n : Nat) : Nat → Int := fun k => if k = n - 1 ∧ parN nd n k = -2 then -1 else parN nd n k
/-- The depths, after m nodes from the last but one downwards. -/
def depN (par : Nat → Int) (n : Nat) : Nat → Nat → Int
  | 0 => fun _ => 0
  | m + 1 => fun k => if k = n - 2 - m ∧ 0 ≤ par (n - 2 - m) then depN par n m (par (n - 2 - m)).toNat + 1 else depN par n m k
def depE (nd : Nat → ND) (n : Nat) : Nat → Int := depN (parE nd n) n (n - 1)

theorem par1_lt (nd : Nat → ND) (par : Nat → Int) (i : Nat) (h : ∀ k, par k ≤ i ∧ -3 ≤ par k) : ∀ j k, par1 nd par i j k ≤ i ∧ -3 ≤ par1 nd par i j k
  | 0, k => h k
  | j + 1, k => by
    simp only [par1]; split
    · split
      · omega
      · omega
    · exact par1_lt nd par i h j k
theorem parN_lt (nd : Nat → ND) : ∀ i k, parN nd i k < i ∧ -3 ≤ parN nd i k
  | 0, k => by simp [parN]
  | i + 1, k => by
    have := par1_lt nd (parN nd i) i (fun k => by have := parN_lt nd i k; omega) (nd i).nk k
    rw [parN]; omega
theorem parE_lt (nd : Nat → ND) (n k : Nat) : parE nd n k < n ∧ -3 ≤ parE nd n k := by
  have := parN_lt nd n k
  unfold parE; split <;> omega
theorem depN_le (par : Nat → Int) (n : Nat) : ∀ m k, 0 ≤ depN par n m k ∧ depN par n m k ≤ m
  | 0, k => by simp [depN]
  | m + 1, k => by
    simp only [depN]; split
    · have := depN_le par n m (par (n - 2 - m)).toNat; omega
    · have := depN_le par n m k; omega

/-- An array of numbers. -/
def Arr (c : Array Value) (n : Nat) (f : Nat → Int) : Prop := c.size = n ∧ ∀ k, k < n → c[k]? = some (.int .i64 (f k))
theorem Arr.set {c : Array Value} {n : Nat} {f : Nat → Int} (h : Arr c n f) (i : Nat) (v : Int) {g : Nat → Int} (hg : ∀ k, k < n → g k = if k = i then v else f k) : Arr (c.setIfInBounds i (.int .i64 v)) n g := by
  refine ⟨by simpa using h.1, fun k hk => ?_⟩
  rw [hg k hk]
  by_cases e : i = k
  · subst e; simp [h.1, hk]
  · rw [if_neg (fun x => e x.symm)]
    have := h.2 k hk
    simp only [Array.getElem?_setIfInBounds, e, if_false]; exact this

theorem arr_par1 {c : Array Value} {n : Nat} {nd : Nat → ND} {i j q : Nat} {v : Int} (A : Arr c n (par1 nd (parN nd i) i j)) (hq : (nd i).kd j = (q : Int)) (hv : v = if par1 nd (parN nd i) i j q = -2 then (i : Int) else -3) :
    Arr (c.setIfInBounds q (.int .i64 v)) n (par1 nd (parN nd i) i (j + 1)) := by
  refine A.set q v fun k _ => ?_
  simp only [par1]
  by_cases e : k = q
  · subst e
    split
    · rw [if_pos rfl, hv]
    · omega
  · rw [if_neg e]
    split
    · omega
    · rfl

theorem arr_parE {c : Array Value} {n : Nat} {nd : Nat → ND} (A : Arr c n (parN nd n)) (h : parN nd n (n - 1) = -2) :
    Arr (c.setIfInBounds (n - 1) (.int .i64 (-1))) n (parE nd n) := by
  refine A.set (n - 1) (-1) fun k _ => ?_
  unfold parE
  by_cases e : k = n - 1
  · subst e; simp [h]
  · simp [e]
theorem arr_parE' {c : Array Value} {n : Nat} {nd : Nat → ND} (A : Arr c n (parN nd n)) (h : parN nd n (n - 1) ≠ -2) : Arr c n (parE nd n) := by
  refine ⟨A.1, fun k hk => ?_⟩
  rw [A.2 k hk]
  unfold parE
  by_cases e : k = n - 1
  · subst e; simp [h]
  · simp [e]
theorem arr_depN {c : Array Value} {n m i : Nat} {par : Nat → Int} {v : Int} (A : Arr c n (depN par n m)) (hi : i = n - 2 - m) (hp : 0 ≤ par i) (hv : v = depN par n m (par i).toNat + 1) :
    Arr (c.setIfInBounds i (.int .i64 v)) n (depN par n (m + 1)) := by
  refine A.set i v fun k _ => ?_
  simp only [depN]
  subst hi
  by_cases e : k = n - 2 - m
  · subst e; simp [hp, hv]
  · simp [e]
theorem arr_depN' {c : Array Value} {n m i : Nat} {par : Nat → Int} (A : Arr c n (depN par n m)) (hi : i = n - 2 - m) (hp : ¬ 0 ≤ par i) : Arr c n (depN par n (m + 1)) := by
  refine ⟨A.1, fun k hk => ?_⟩
  rw [A.2 k hk]
  simp only [depN]
  subst hi
  simp [hp]
end Go.Proofs.YtnokgdgikdgaeaaGreat

namespace Go.Proofs.YtnokgdgikdgaeaaGreat
open Go.RowKit

def anyB (p : Nat → Bool) (i : Nat) : Nat → Bool
  | 0 => false
  | m + 1 => p i || anyB p (i + 1) m

def letAt (nd : Nat → ND) (up : Nat) (v : Int) (i : Nat) : Bool := (nd ((nd up).kd i).toNat).kind == 2 && declB (nd ((nd up).kd i).toNat) v

/-- Does node up, of which below is a kid, bring v into scope there? -/
def bringsB (nd : Nat → ND) (v : Int) (below up : Nat) : Bool :=
  ((nd up).kind == 1 && anyB (letAt nd up v) 0 (placeI (nd up).kd below 0 (nd up).nk).toNat) ||
  (((nd up).kind == 7 || (nd up).kind == 8 || (nd up).kind == 12) && (placeI (nd up).kd below 0 (nd up).nk == ((nd up).nk : Int) - 1) && declB (nd up) v)

def visUp (nd : Nat → ND) (par : Nat → Int) (v : Int) : Nat → Nat → Bool
  | 0, _ => false
  | f + 1, below => if par below < 0 then false else bringsB nd v below (par below).toNat || visUp nd par v f (par below).toNat

def visB (d : FD) (par : Nat → Int) (at_ : Nat) (v : Int) : Bool := decide (v < d.params) || visUp d.nd par v d.nn at_

/-- A loop whose body below is. -/
def loopAt (nd : Nat → ND) (below up : Nat) : Bool :=
  ((nd up).kind == 6 || (nd up).kind == 7 || (nd up).kind == 8) && ((nd up).kd ((nd up).nk - 1) == (below : Int))
def loopUp (nd : Nat → ND) (par : Nat → Int) : Nat → Nat → Bool
  | 0, _ => false
  | f + 1, below => if par below < 0 then false else loopAt nd below (par below).toNat || loopUp nd par f (par below).toNat

/-- What a tree of parents is. -/
structure ParOk (par : Nat → Int) (n : Nat) : Prop where
  lt : ∀ k, k < n → par k < n
  gt : ∀ k, k < n → 0 ≤ par k → (k : Int) < par k

theorem par1_gt (nd : Nat → ND) (par : Nat → Int) (i : Nat) (h : ∀ k : Nat, 0 ≤ par k → (k : Int) < par k) : ∀ j, (∀ j', j' < j → (nd i).kd j' < i) → ∀ k : Nat, 0 ≤ par1 nd par i j k → (k : Int) < par1 nd par i j k
  | 0, _, k => h k
  | j + 1, hj, k => by
    simp only [par1]
    have := hj j (by omega)
    split
    · split
      · omega
      · omega
    · exact par1_gt nd par i h j (fun j' h' => hj j' (by omega)) k
theorem parN_gt (nd : Nat → ND) : ∀ i, (∀ i', i' < i → ∀ j, j < (nd i').nk → (nd i').kd j < i') → ∀ k : Nat, 0 ≤ parN nd i k → (k : Int) < parN nd i k
  | 0, _, k => by simp [parN]
  | i + 1, h, k => par1_gt nd _ i (parN_gt nd i (fun i' h' => h i' (by omega))) _ (h i (by omega)) k
theorem parE_ok (nd : Nat → ND) (n : Nat) (h : ∀ i, i < n → ∀ j, j < (nd i).nk → 0 ≤ (nd i).kd j ∧ (nd i).kd j < i) : ParOk (parE nd n) n := by
  refine ⟨fun k _ => (parE_lt nd n k).1, fun k _ h0 => ?_⟩
  have := parN_gt nd n (fun i hi j hj => (h i hi j hj).2) k
  unfold parE at *
  split at h0
  · omega
  · rw [if_neg (by assumption)]; exact this h0
end Go.Proofs.YtnokgdgikdgaeaaGreat

namespace Go.Proofs.YtnokgdgikdgaeaaGreat
open Go.RowKit

def headA (d : FD) : Bool := decide (0 < d.nn) && decide (d.nv ≤ 200) && decide (d.nu ≤ 200) && decide (0 ≤ d.params) && decide (d.params ≤ d.nv)
def headZ (d : FD) (f : Nat) : Bool := !((f : Int) == 0) || (decide (d.params ≤ 0) && decide (d.nu = 0))
def headC (d : FD) (f : Nat) : Bool := decide (0 ≤ d.line) && decide (d.line ≤ 100000) && nameB d.name 0 && headZ d f
def headB (d : FD) (f : Nat) : Bool := headA d && headC d f && allB (fun i => nameB (d.vr i) 1) 0 d.nv

/-- Code 6 of a node: what has been seen, and whether it is right. -/
def seeL (nv : Nat) (rf : Nat → Int) (seen : Nat → Bool) (i : Nat) : Nat → Bool × (Nat → Bool)
  | 0 => (true, seen)
  | m + 1 => if rf i < 0 ∨ (nv : Int) ≤ rf i then (false, seen) else if seen (rf i).toNat then (false, seen) else seeL nv rf (fun k => if k = (rf i).toNat then true else seen k) (i + 1) m

def refsB (u : UD) (d : FD) (par : Nat → Int) (at_ : Nat) (seen : Nat → Bool) : Bool × (Nat → Bool) :=
  let x := d.nd at_
  if x.kind = 27 then (decide (0 ≤ x.rf 0) && decide (x.rf 0 < d.nu), seen)
  else if x.kind = 36 then (decide (0 ≤ x.rf 0) && decide (x.rf 0 < u.nf), seen)
  else if x.kind = 26 then (decide (0 ≤ x.rf 0) && decide (x.rf 0 < d.nv) && visB d par at_ (x.rf 0), seen)
  else seeL d.nv x.rf seen 0 x.nr

def upB (d : FD) (par : Nat → Int) (at_ : Nat) (l : Bool) (ix : Int) : Bool :=
  if l then decide (0 ≤ ix) && decide (ix < d.nv) && visB d par at_ ix else decide (0 ≤ ix) && decide (ix < d.nu)
def upsB (d : FD) (par : Nat → Int) (at_ : Nat) (g : FD) : Bool := allB (fun i => upB d par at_ (g.ul i) (g.ui i)) 0 g.nu
end Go.Proofs.YtnokgdgikdgaeaaGreat
