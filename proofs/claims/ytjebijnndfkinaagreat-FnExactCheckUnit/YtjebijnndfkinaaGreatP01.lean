import Derived.Test.YtjebijnndfkinaaGreatP00
namespace Go.Proofs.YtjebijnndfkinaaGreat
open Go.RowKit

theorem bcell {W w1 : World} (hb : Onw W w1) : (∀ b o, b < W.heap.size → w1.cell? ⟨b, o, none⟩ = W.cell? ⟨b, o, none⟩) ∧ (∀ b o, b < W.heap.size → w1.frozen? ⟨b, o, none⟩ = W.frozen? ⟨b, o, none⟩) :=
  ⟨fun b o h => hb.cell (p := ⟨b, o, none⟩) h, fun b o h => hb.frozen (p := ⟨b, o, none⟩) h⟩

theorem Blk.kept {p : Nat → Prop} {w w' : World} (hk : Kept p w w') {g e cur} (hg : p g) (h : Blk w g e cur) : Blk w' g e cur := (hk g hg).trans h

theorem Kept.refl (p : Nat → Prop) (w : World) : Kept p w w := fun _ _ => rfl
theorem Kept.setCell {p : Nat → Prop} {a w : World} (h : Kept p a w) {x : Addr} (hx : ¬ p x.block) (v : Value) : Kept p a (w.setCell x v) :=
  fun k hk => (Below.heap_setCell _ _ _ _ (fun e => hx (e ▸ hk))).trans (h k hk)

theorem Kept.set {p : Nat → Prop} {a w : World} (h : Kept p a w) {b o : Nat} (hx : ¬ p b) (v : Value) : Kept p a (w.setCell ⟨b, o, none⟩ v) := h.setCell hx v
theorem below_set {B : Nat} {a w : World} (h : Below B a w) {b o : Nat} (hp : B ≤ b) (v : Value) : Below B a (w.setCell ⟨b, o, none⟩ v) := h.setCell hp v

theorem run_store_float (P : Program) (w : World) (a : Addr) (m : Mode) (k : FloatKind) (b : Nat) : (store a (.float k b) m).run P w = stored P w a (.float k b) m := run_store P w a _ m rfl
attribute [local go_sem] run_store_float

set_option maxHeartbeats 1000000 in
theorem toNode_any (m : NM) (w : World) (hr : m.nr ≤ 1048576) (hk : m.nk ≤ 1048576) (ha : m.At w) :
    Calls Tryz.prog 79 #[.agg #[.int .i64 m.kind, .int .i64 m.line, .int .i64 m.op, .int .i64 m.num, .float .f64 m.flt, .string m.str, .slice m.ra m.nr m.rc, .slice m.ka m.nk m.kc]] w fun e w' => ∃ a' a'', e = .returned (.agg #[.int .i64 m.kind, .int .i64 m.line, .int .i64 m.op, .int .i64 m.num, .float .f64 m.flt, .string m.str, .slice a' m.nr m.nr, .slice a'' m.nk m.nk]) ∧ Onw w w' ∧ IntsAt w' a' m.nr m.rf ∧ IntsAt w' a'' m.nk m.kd ∧ Frm w.heap.size a' ∧ Frm w.heap.size a'' := by
  obtain ⟨a1, a2⟩ := ha
  go_enter Tryz.func79, Tryz.ntmps79
  go_wp2_with fail
  have o3 := ((Onw.alloc w (Obj.cells #[.int .i64 m.kind, .int .i64 m.line, .int .i64 m.op, .int .i64 m.num, .float .f64 m.flt, .string m.str, .slice m.ra m.nr m.rc, .slice m.ka m.nk m.kc] 135)).trans (Onw.alloc _ (Obj.cells #[.int .i64 0, .int .i64 0, .int .i64 0, .int .i64 0, .float .f64 0, .string ByteArray.empty, .slice none 0 0, .slice none 0 0] 71))).trans (Onw.alloc _ (Obj.cells #[.int .i64 m.kind, .int .i64 m.line, .int .i64 m.op, .int .i64 m.num, .float .f64 m.flt, .string m.str, .slice none 0 0, .slice none 0 0] 71))
  refine (toIntS_any _ _ _ m.rf _ hr (by exact a1.onw o3)).mono ?_
  rintro e w1 ⟨a', rfl, hb1, hi1, hf1⟩
  have ob : Onw w w1 := Onw.trans o3 hb1
  have B0 := (Blk.new w 135 #[.int .i64 m.kind, .int .i64 m.line, .int .i64 m.op, .int .i64 m.num, .float .f64 m.flt, .string m.str, .slice m.ra m.nr m.rc, .slice m.ka m.nk m.kc]).onw (((Onw.alloc _ _).trans (Onw.alloc _ _)).trans hb1)
  have B1 := Blk.onw ((Onw.alloc _ _).trans hb1) (Blk.new _ 71 _)
  have B2 := Blk.onw hb1 (Blk.new _ 71 _)
  have hz : w.heap.size + 1 + 1 < w1.heap.size := by have := hb1.size; simp at this; omega
  simp only [World.size_alloc] at B1 B2 hf1
  clear hb1 o3
  have c0 := B0.cell
  have c2 := B2.cell
  have f2 := B2.free
  go_wp2_with fail
  have ob2 : Onw w (w1.setCell ⟨w.heap.size + 1 + 1, 6, none⟩ (.slice a' m.nr m.nr)) := Below.setCell ob (by simp; omega) _
  have B0' := Blk.kept (kept_setCell w1 (w.heap.size + 1 + 1) 6 (.slice a' m.nr m.nr)) (by omega) B0
  have B1' := Blk.kept (kept_setCell w1 (w.heap.size + 1 + 1) 6 (.slice a' m.nr m.nr)) (by omega) B1
  have B2' := B2.set 6 (.slice a' m.nr m.nr)
  have hi1' := hi1.kept (kept_setCell w1 (w.heap.size + 1 + 1) 6 (.slice a' m.nr m.nr)) (fun x hx => by have := hf1 x hx; omega)
  clear hi1 B0 B1 B2 c0 c2 f2
  refine (toIntS_any _ _ _ m.kd _ hk (by exact a2.onw ob2)).mono ?_
  rintro e w2 ⟨a'', rfl, hb2, hi2, hf2⟩
  have hz2 : w.heap.size + 1 + 1 < w2.heap.size := by have := hb2.size; simp at this; omega
  have B1 := Blk.onw hb2 B1'
  have B2 := Blk.onw hb2 B2'
  have i1 := hi1'.onw hb2
  have ob3 := ob2.trans hb2
  simp only [World.size_setCell] at hf2
  clear hb2 hi1' B0' B1' B2' ob2 ob
  have c2 := B2.cell
  have f2 := B2.free
  have c1 := B1.cell
  have f1 := B1.free
  go_wp2_with fail
  refine bodyPost_ret (v := .agg #[.int .i64 m.kind, .int .i64 m.line, .int .i64 m.op, .int .i64 m.num, .float .f64 m.flt, .string m.str, .slice a' m.nr m.nr, .slice a'' m.nk m.nk]) (by simp [results, Tryz.results79, go_sem, c1]) rfl ⟨a', a'', rfl, ?_, ?_, ?_, ?_, ?_⟩
  · iterate 9 (refine below_set ?_ (by omega) _)
    exact ob3
  · refine IntsAt.kept (p := fun k => w.heap.size + 1 + 1 < k) ?_ (fun x hx => by have := hf1 x hx; omega) i1
    iterate 9 (refine Kept.set ?_ (by show ¬ _ < _; omega) _)
    exact Kept.refl _ _
  · refine IntsAt.kept (p := fun k => w.heap.size + 1 + 1 < k) ?_ (fun x hx => by have := hf2 x hx; omega) hi2
    iterate 9 (refine Kept.set ?_ (by show ¬ _ < _; omega) _)
    exact Kept.refl _ _
  · exact hf1.mono (by omega)
  · exact hf2.mono (by omega)
end Go.Proofs.YtjebijnndfkinaaGreat

namespace Go.Proofs.YtjebijnndfkinaaGreat
open Go.RowKit
attribute [local go_sem] run_store_float

def setL (cur : Array Value) (o : Nat) : List Value → Array Value
  | [] => cur
  | v :: r => setL (cur.setIfInBounds o v) (o + 1) r
theorem size_setL : ∀ (vs : List Value) (cur : Array Value) (o : Nat), (setL cur o vs).size = cur.size
  | [], _, _ => rfl
  | v :: r, cur, o => by rw [setL, size_setL r]; simp
theorem get_setL_out : ∀ (vs : List Value) (cur : Array Value) (o i : Nat), i < o ∨ o + vs.length ≤ i → (setL cur o vs)[i]? = cur[i]?
  | [], _, _, _, _ => rfl
  | v :: r, cur, o, i, h => by
    rw [setL, get_setL_out r _ _ _ (by simp at h; omega), get_set_other]
    simp at h; omega
theorem get_setL_in : ∀ (vs : List Value) (cur : Array Value) (o j : Nat), o + vs.length ≤ cur.size → j < vs.length → (setL cur o vs)[o + j]? = vs[j]?
  | v :: r, cur, o, 0, h, _ => by
    have ho : o < cur.size := by simp at h; omega
    rw [setL, get_setL_out r _ _ _ (by omega)]; simp [ho]
  | v :: r, cur, o, j + 1, h, hj => by
    have := get_setL_in r (cur.setIfInBounds o v) (o + 1) j (by simp at h; simp; omega) (by simpa using hj)
    rw [setL, show o + (j + 1) = o + 1 + j from by omega, this]; simp
theorem Blk.setL {g : Nat} {e : TypeId} : ∀ (vs : List Value) (w : World) (cur : Array Value) (o : Nat), Blk w g e cur → Blk (w.setCells g o vs) g e (setL cur o vs)
  | [], _, _, _, h => h
  | v :: r, _, _, o, h => Blk.setL r _ _ (o + 1) (h.set o v)
theorem below_setL {B g : Nat} (hg : B ≤ g) : ∀ (vs : List Value) (a w : World) (o : Nat), Below B a w → Below B a (w.setCells g o vs)
  | [], _, _, _, h => h
  | v :: r, _, _, o, h => below_setL hg r _ _ (o + 1) (below_set h hg v)
theorem kept_setL {g : Nat} : ∀ (vs : List Value) (w : World) (o : Nat), Kept (· ≠ g) w (w.setCells g o vs)
  | [], _, _ => Kept.refl _ _
  | v :: r, w, o => (kept_setCell w g o v).trans (kept_setL r _ (o + 1))

theorem Blk.some {w : World} {g : Nat} {e : TypeId} {cur : Array Value} (h : Blk w g e cur) {j : Nat} (hj : j < cur.size) : ∃ v, w.cell? ⟨g, j, none⟩ = some v :=
  ⟨cur[j], by rw [h.cell]; simp [hj]⟩

theorem info_up : (Tryz.prog.info? 117).map (fun i => (i.zero, i.size, i.bytes)) = some (some (.agg #[.bool false, .int .i64 0]), 2, 16) := by kernel_rfl
theorem run_make_ups (n : Nat) (hn : n ≤ 1048576) (w : World) :
    (Instr.makeSlice 58 (.int .i64 n) (.int .i64 n)).run Tryz.prog w = .ok (.slice (some ⟨w.heap.size, 0, none⟩) n n) (w.alloc (.cells (madeCells #[.bool false, .int .i64 0] (n * 2)) 117)) := by
  obtain ⟨i0, hi, hz0, hz1, hz2⟩ := info_parts info_up
  have := run_make (P := Tryz.prog) w 58 117 i0 _ Tryz.underlying58 hi hz0 .i64 .i64 n n (by omega) (by omega) (by rw [hz2]; omega) (by omega)
  simpa [hz1, Value.cells] using this

set_option maxHeartbeats 400000 in
theorem toUpS_any (a : Option Addr) (n c : Nat) (l : Nat → Bool) (f : Nat → Int) (w : World) (hn : n ≤ 1048576) (ha : UpsAt w a n l f) :
    Calls Tryz.prog 55 #[.slice a n c] w fun e w' => ∃ a', e = .returned (.slice a' n n) ∧ Onw w w' ∧ UpsAt w' a' n l f ∧ Frm w.heap.size a' := by
  have hmk := run_make_ups n hn
  go_enter Tryz.func55, Tryz.ntmps55
  go_wp2
  go_loopw [4] (fun i wr => ∃ k : Nat, k ≤ n ∧ i = .int .i64 k ∧ Onw w wr ∧ ∃ cur, Blk wr w.heap.size 117 cur ∧ cur.size = n * 2 ∧ ∀ i, i < k → cur[i * 2 + 0]? = some (.bool (l i)) ∧ cur[i * 2 + 1]? = some (.int .i64 (f i))) (fun i _ => n - (intOf i).toNat)
  case atStart => exact ⟨0, Nat.zero_le _, rfl, Onw.alloc _ _, _, Blk.new _ _ _, by simp [size_madeCells], fun i hi => by omega⟩
  case round =>
    obtain ⟨k, hk, rfl, hb, cur, hbl, hsz, hcur⟩ := hrel
    have HC : Hid _ := hcur
    have HS : Hid _ := hsz
    clear hcur hmk hsz
    by_cases hlt : k < n
    · obtain ⟨b, off, rfl, hc⟩ := ha.onw hb (by omega)
      obtain ⟨h1, h2⟩ := hc k hlt
      clear hc
      go_wp2_with fail
      refine (toUp_any _ _ _).mono ?_
      rintro e w1 ⟨rfl, hb1⟩
      have hbl1 := hbl.onw hb1
      have hf := hbl1.free
      have hz : w.heap.size < w1.heap.size := hbl1.lt
      obtain ⟨x0, g0⟩ := hbl1.some (j := k * 2) (by rw [HS.out]; omega)
      obtain ⟨x1, g1⟩ := hbl1.some (j := k * 2 + 1) (by rw [HS.out]; omega)
      clear h1 h2
      go_wp2_with fail
      go_roundw
      case rel =>
        refine ⟨k + 1, by omega, by go_num, below_setL (Nat.le_refl _) [.bool (l k), .int .i64 (f k)] _ _ (k * 2) (hb.trans hb1), _, Blk.setL [.bool (l k), .int .i64 (f k)] _ _ (k * 2) hbl1, by rw [size_setL]; exact HS.out, fun i hi => ?_⟩
        by_cases e : i = k
        · subst e
          have hs := HS.out
          exact ⟨(get_setL_in _ _ _ 0 (by simp; omega) (by simp)).trans rfl, (get_setL_in _ _ _ 1 (by simp; omega) (by simp)).trans rfl⟩
        · rw [get_setL_out _ _ _ _ (by simp; omega), get_setL_out _ _ _ _ (by simp; omega)]
          exact HC.out i (by omega)
      case measure => simp [intOf]; omega
    · go_wp2
      go_ret
      have : k = n := by omega
      subst this
      refine ⟨_, rfl, hb, fun _ => ⟨_, 0, rfl, fun i hi => ?_⟩, fun x hx => by cases hx; exact Nat.le_refl _⟩
      rw [hbl.cell, hbl.cell]; simpa using HC.out i hi

theorem info_node : (Tryz.prog.info? 71).map (fun i => (i.zero, i.size, i.bytes)) = some (some (.agg #[.int .i64 0, .int .i64 0, .int .i64 0, .int .i64 0, .float .f64 0, .string ByteArray.empty, .slice none 0 0, .slice none 0 0]), 8, 104) := by kernel_rfl
theorem run_make_nodes (n : Nat) (hn : n ≤ 1048576) (w : World) :
    (Instr.makeSlice 59 (.int .i64 n) (.int .i64 n)).run Tryz.prog w = .ok (.slice (some ⟨w.heap.size, 0, none⟩) n n) (w.alloc (.cells (madeCells #[.int .i64 0, .int .i64 0, .int .i64 0, .int .i64 0, .float .f64 0, .string ByteArray.empty, .slice none 0 0, .slice none 0 0] (n * 8)) 71)) := by
  obtain ⟨i0, hi, hz0, hz1, hz2⟩ := info_parts info_node
  have := run_make (P := Tryz.prog) w 59 71 i0 _ Tryz.underlying59 hi hz0 .i64 .i64 n n (by omega) (by omega) (by rw [hz2]; omega) (by omega)
  simpa [hz1, Value.cells] using this

/-- Where the lists of a node lie: from block B on. -/
def NM.Frm (B : Nat) (m : NM) : Prop := YtjebijnndfkinaaGreat.Frm B m.ra ∧ YtjebijnndfkinaaGreat.Frm B m.ka
theorem NM.Frm.mono {B B' : Nat} {m : NM} (h : m.Frm B) (hb : B' ≤ B) : m.Frm B' := ⟨h.1.mono hb, h.2.mono hb⟩
theorem NM.At.kept {p : Nat → Prop} {w w' : World} (hk : Kept p w w') {m : NM} (hr : ∀ x, m.ra = some x → p x.block) (hk' : ∀ x, m.ka = some x → p x.block) (h : m.At w) : m.At w' := ⟨h.1.kept hk hr, h.2.kept hk hk'⟩

/-- A node's cells in an array. -/
def NodeIn (cur : Array Value) (o : Nat) (m : NM) : Prop := ∀ j, j < 8 → cur[o + j]? = m.val[j]?

theorem NodeIn.cells {w : World} {g : Nat} {e : TypeId} {cur : Array Value} (hb : Blk w g e cur) {o : Nat} {m : NM} (h : NodeIn cur o m) : NodeCells w g o m :=
  ⟨(hb.cell _).trans (h 0 (by omega)), (hb.cell _).trans (h 1 (by omega)), (hb.cell _).trans (h 2 (by omega)), (hb.cell _).trans (h 3 (by omega)), (hb.cell _).trans (h 4 (by omega)), (hb.cell _).trans (h 5 (by omega)), (hb.cell _).trans (h 6 (by omega)), (hb.cell _).trans (h 7 (by omega))⟩

structure NodesRel (wr : World) (g n k : Nat) (nm nm' : Nat → NM) (cur : Array Value) : Prop where
  blk : Blk wr g 71 cur
  size : cur.size = n * 8
  data : ∀ i, (nm' i).toND = (nm i).toND
  cells : ∀ i, i < k → NodeIn cur (i * 8) (nm' i)
  lies : ∀ i, i < k → (nm' i).At wr
  frm : ∀ i, i < k → (nm' i).Frm (g + 1)

theorem NodesRel.step {wr w1 : World} {g n k : Nat} {nm nm' : Nat → NM} {cur : Array Value} (R : NodesRel wr g n k nm nm' cur) (hkn : k < n) (hb : Onw wr w1) (a' a'' : Option Addr)
    (i1 : IntsAt w1 a' (nm k).nr (nm k).rf) (i2 : IntsAt w1 a'' (nm k).nk (nm k).kd) (f1 : Frm wr.heap.size a') (f2 : Frm wr.heap.size a'') :
    ∃ nm'' cur', NodesRel (w1.setCells g (k * 8) [.int .i64 (nm k).kind, .int .i64 (nm k).line, .int .i64 (nm k).op, .int .i64 (nm k).num, .float .f64 (nm k).flt, .string (nm k).str, .slice a' (nm k).nr (nm k).nr, .slice a'' (nm k).nk (nm k).nk]) g n (k + 1) nm nm'' cur' := by
  obtain ⟨h1, h2, h3, h4, h5, h6⟩ := R
  have hlt := h1.lt
  refine ⟨fun i => if i = k then ⟨(nm k).toND, a', (nm k).nr, a'', (nm k).nk⟩ else nm' i, _, Blk.setL _ _ _ (k * 8) (h1.onw hb), ?_, ?_, ?_, ?_, ?_⟩
  · rw [size_setL]; exact h2
  · intro i
    by_cases e : i = k
    · subst e; simp
    · simp [e]; exact h3 i
  · intro i hi j hj
    by_cases e : i = k
    · subst e
      simp only [if_true]
      rw [get_setL_in _ _ _ _ (by simp; omega) (by simpa using hj)]
      simp [NM.val]
    · simp only [e, if_false]
      rw [get_setL_out _ _ _ _ (by simp; omega)]
      exact h4 i (by omega) j hj
  · intro i hi
    by_cases e : i = k
    · subst e
      simp only [if_true]
      exact NM.At.kept (kept_setL _ _ _) (fun x hx => by have := f1 x hx; omega) (fun x hx => by have := f2 x hx; omega) ⟨i1, i2⟩
    · simp only [e, if_false]
      have := h6 i (by omega)
      exact NM.At.kept (kept_setL _ _ _) (fun x hx => by have := this.1 x hx; omega) (fun x hx => by have := this.2 x hx; omega) ((h5 i (by omega)).onw hb)
  · intro i hi
    by_cases e : i = k
    · subst e
      simp only [if_true]
      exact ⟨f1.mono (by omega), f2.mono (by omega)⟩
    · simp only [e, if_false]
      exact h6 i (by omega)

set_option maxHeartbeats 1000000 in
theorem toNodeS_any (a : Option Addr) (n c : Nat) (nm : Nat → NM) (w : World) (hn : n ≤ 1048576) (hs : ∀ i, i < n → (nm i).nr ≤ 1048576 ∧ (nm i).nk ≤ 1048576) (ha : NodesAt w a n nm) :
    Calls Tryz.prog 56 #[.slice a n c] w fun e w' => ∃ a' nm', e = .returned (.slice a' n n) ∧ Onw w w' ∧ NodesAt w' a' n nm' ∧ (∀ i, (nm' i).toND = (nm i).toND) ∧ Frm w.heap.size a' ∧ ∀ i, i < n → (nm' i).Frm w.heap.size := by
  have hmk := run_make_nodes n hn
  go_enter Tryz.func56, Tryz.ntmps56
  go_wp2
  go_loopw [4] (fun i wr => ∃ k : Nat, k ≤ n ∧ i = .int .i64 k ∧ Onw w wr ∧ ∃ nm' cur, NodesRel wr w.heap.size n k nm nm' cur) (fun i _ => n - (intOf i).toNat)
  case atStart => exact ⟨0, Nat.zero_le _, rfl, Onw.alloc _ _, nm, _, Blk.new _ _ _, by simp [size_madeCells], fun i => rfl, fun i hi => by omega, fun i hi => by omega, fun i hi => by omega⟩
  case round =>
    obtain ⟨k, hk, rfl, hb, nm', cur, R⟩ := hrel
    clear hmk
    by_cases hlt : k < n
    · obtain ⟨b, off, rfl, hc⟩ := (ha.onw hb).1 (by omega)
      obtain ⟨c0, c1, c2, c3, c4, c5, c6, c7⟩ := hc k hlt
      have hsk := hs k hlt
      have HS : Hid _ := hs
      clear hc hs
      go_wp2_with fail
      refine (toNode_any (nm k) _ hsk.1 hsk.2 ((ha.2 k hlt).onw hb)).mono ?_
      rintro e w1 ⟨a', a'', rfl, hb1, i1, i2, f1, f2⟩
      have hbl1 := R.blk.onw hb1
      have hf := hbl1.free
      have hz : w.heap.size < w1.heap.size := hbl1.lt
      obtain ⟨nm'', cur', R'⟩ := R.step hlt hb1 a' a'' i1 i2 f1 f2
      have hsz := R.size
      obtain ⟨x0, g0⟩ := hbl1.some (j := k * 8) (by omega)
      obtain ⟨x1, g1⟩ := hbl1.some (j := k * 8 + 1) (by omega)
      obtain ⟨x2, g2⟩ := hbl1.some (j := k * 8 + 2) (by omega)
      obtain ⟨x3, g3⟩ := hbl1.some (j := k * 8 + 3) (by omega)
      obtain ⟨x4, g4⟩ := hbl1.some (j := k * 8 + 4) (by omega)
      obtain ⟨x5, g5⟩ := hbl1.some (j := k * 8 + 5) (by omega)
      obtain ⟨x6, g6⟩ := hbl1.some (j := k * 8 + 6) (by omega)
      obtain ⟨x7, g7⟩ := hbl1.some (j := k * 8 + 7) (by omega)
      clear c0 c1 c2 c3 c4 c5 c6 c7 hsz
      go_wp2_with fail
      go_roundw
      case rel => exact ⟨k + 1, by omega, by go_num, below_setL (Nat.le_refl _) [_, _, _, _, _, _, _, _] _ _ (k * 8) (hb.trans hb1), nm'', cur', R'⟩
      case measure => simp [intOf]; omega
    · go_wp2
      go_ret
      have : k = n := by omega
      subst this
      exact ⟨_, nm', rfl, hb, ⟨fun _ => ⟨_, 0, rfl, fun i hi => by rw [Nat.zero_add]; exact (R.cells i hi).cells R.blk⟩, R.lies⟩, R.data, fun x hx => by cases hx; exact Nat.le_refl _, fun i hi => (R.frm i hi).mono (by omega)⟩
end Go.Proofs.YtjebijnndfkinaaGreat
