import Derived.Test.YtnokgdgikdgaeaaP01
namespace Go.Proofs.Ytnokgdgikdgaeaa
open Go.RowKit
attribute [local go_sem] run_store_float

set_option maxRecDepth 100000 in
set_option maxHeartbeats 4000000 in
theorem statementPiece_any (m : PM) (p : Int) (kk : Option Addr) (kn kc : Nat) (w : World) (hs : m.kind < 20) :
    Calls Try.prog 42 #[.agg #[.int .i64 p, .int .i64 m.kind, .int .i64 m.frm, .int .i64 m.tto, .int .i64 m.line, .int .i64 m.op, .int .i64 m.num, .float .f64 m.flt, .string m.text, .slice m.na m.nn m.nc, .slice m.ka m.nk m.kc, .slice kk kn kc]] w fun e w' => e = .returned (.iface (partT m.kind) (.agg #[.int .i64 p, .int .i64 m.kind, .int .i64 m.frm, .int .i64 m.tto, .int .i64 m.line, .int .i64 m.op, .int .i64 m.num, .float .f64 m.flt, .string m.text, .slice m.na m.nn m.nc, .slice m.ka m.nk m.kc, .slice kk kn kc])) ∧ Onw w w' := by
  have cs : m.kind = 1 ∨ m.kind = 2 ∨ m.kind = 3 ∨ m.kind = 4 ∨ m.kind = 5 ∨ m.kind = 6 ∨ m.kind = 16 ∨ m.kind = 7 ∨ m.kind = 8 ∨ m.kind = 9 ∨ m.kind = 10 ∨ m.kind = 11 ∨ m.kind = 12 ∨ m.kind = 13 ∨ m.kind = 14 ∨ m.kind = 15 ∨ (m.kind ≠ 1 ∧ m.kind ≠ 2 ∧ m.kind ≠ 3 ∧ m.kind ≠ 4 ∧ m.kind ≠ 5 ∧ m.kind ≠ 6 ∧ m.kind ≠ 16 ∧ m.kind ≠ 7 ∧ m.kind ≠ 8 ∧ m.kind ≠ 9 ∧ m.kind ≠ 10 ∧ m.kind ≠ 11 ∧ m.kind ≠ 12 ∧ m.kind ≠ 13 ∧ m.kind ≠ 14 ∧ m.kind ≠ 15) := by omega
  rcases cs with hk | hk | hk | hk | hk | hk | hk | hk | hk | hk | hk | hk | hk | hk | hk | hk | hk
  iterate 16
    focus
      rw [hk]
      clear hk hs
      go_enter Try.func42, Try.ntmps42
      go_wp2_with fail
      go_ret
      exact ⟨rfl, Onw.alloc _ _⟩
  · have T : Hid (partT m.kind = 73) := by
      show _ = _
      unfold partT
      repeat (rw [if_neg (by omega)])
    have e1 : (m.kind == 1) = false := by simp; omega
    have e2 : (m.kind == 2) = false := by simp; omega
    have e3 : (m.kind == 3) = false := by simp; omega
    have e4 : (m.kind == 4) = false := by simp; omega
    have e5 : (m.kind == 5) = false := by simp; omega
    have e6 : (m.kind == 6) = false := by simp; omega
    have e16 : (m.kind == 16) = false := by simp; omega
    have e7 : (m.kind == 7) = false := by simp; omega
    have e8 : (m.kind == 8) = false := by simp; omega
    have e9 : (m.kind == 9) = false := by simp; omega
    have e10 : (m.kind == 10) = false := by simp; omega
    have e11 : (m.kind == 11) = false := by simp; omega
    have e12 : (m.kind == 12) = false := by simp; omega
    have e13 : (m.kind == 13) = false := by simp; omega
    have e14 : (m.kind == 14) = false := by simp; omega
    have e15 : (m.kind == 15) = false := by simp; omega
    clear hk hs
    go_enter Try.func42, Try.ntmps42
    go_wp2_with fail
    go_ret
    exact ⟨by rw [T.out]; rfl, Onw.alloc _ _⟩

set_option maxRecDepth 100000 in
set_option maxHeartbeats 4000000 in
theorem entryPiece_any (m : PM) (p : Int) (kk : Option Addr) (kn kc : Nat) (w : World) (hs : 38 ≤ m.kind) :
    Calls Try.prog 57 #[.agg #[.int .i64 p, .int .i64 m.kind, .int .i64 m.frm, .int .i64 m.tto, .int .i64 m.line, .int .i64 m.op, .int .i64 m.num, .float .f64 m.flt, .string m.text, .slice m.na m.nn m.nc, .slice m.ka m.nk m.kc, .slice kk kn kc]] w fun e w' => e = .returned (.iface (partT m.kind) (.agg #[.int .i64 p, .int .i64 m.kind, .int .i64 m.frm, .int .i64 m.tto, .int .i64 m.line, .int .i64 m.op, .int .i64 m.num, .float .f64 m.flt, .string m.text, .slice m.na m.nn m.nc, .slice m.ka m.nk m.kc, .slice kk kn kc])) ∧ Onw w w' := by
  have cs : m.kind = 40 ∨ m.kind = 41 ∨ m.kind = 42 ∨ (m.kind ≠ 40 ∧ m.kind ≠ 41 ∧ m.kind ≠ 42) := by omega
  rcases cs with hk | hk | hk | hk
  iterate 3
    focus
      rw [hk]
      clear hk hs
      go_enter Try.func57, Try.ntmps57
      go_wp2_with fail
      go_ret
      exact ⟨rfl, Onw.alloc _ _⟩
  · have T : Hid (partT m.kind = 73) := by
      show _ = _
      unfold partT
      repeat (rw [if_neg (by omega)])
    have e40 : (m.kind == 40) = false := by simp; omega
    have e41 : (m.kind == 41) = false := by simp; omega
    have e42 : (m.kind == 42) = false := by simp; omega
    clear hk hs
    go_enter Try.func57, Try.ntmps57
    go_wp2_with fail
    go_ret
    exact ⟨by rw [T.out]; rfl, Onw.alloc _ _⟩

set_option maxRecDepth 100000 in
set_option maxHeartbeats 4000000 in
theorem expressionPiece_any (m : PM) (p : Int) (kk : Option Addr) (kn kc : Nat) (w : World) (hs : 20 ≤ m.kind) :
    Calls Try.prog 43 #[.agg #[.int .i64 p, .int .i64 m.kind, .int .i64 m.frm, .int .i64 m.tto, .int .i64 m.line, .int .i64 m.op, .int .i64 m.num, .float .f64 m.flt, .string m.text, .slice m.na m.nn m.nc, .slice m.ka m.nk m.kc, .slice kk kn kc]] w fun e w' => e = .returned (.iface (partT m.kind) (.agg #[.int .i64 p, .int .i64 m.kind, .int .i64 m.frm, .int .i64 m.tto, .int .i64 m.line, .int .i64 m.op, .int .i64 m.num, .float .f64 m.flt, .string m.text, .slice m.na m.nn m.nc, .slice m.ka m.nk m.kc, .slice kk kn kc])) ∧ Onw w w' := by
  have cs : m.kind = 20 ∨ m.kind = 21 ∨ m.kind = 22 ∨ m.kind = 23 ∨ m.kind = 24 ∨ m.kind = 25 ∨ m.kind = 26 ∨ m.kind = 27 ∨ m.kind = 28 ∨ m.kind = 29 ∨ m.kind = 30 ∨ m.kind = 31 ∨ m.kind = 32 ∨ m.kind = 33 ∨ m.kind = 34 ∨ m.kind = 35 ∨ m.kind = 36 ∨ m.kind = 37 ∨ (m.kind ≠ 20 ∧ m.kind ≠ 21 ∧ m.kind ≠ 22 ∧ m.kind ≠ 23 ∧ m.kind ≠ 24 ∧ m.kind ≠ 25 ∧ m.kind ≠ 26 ∧ m.kind ≠ 27 ∧ m.kind ≠ 28 ∧ m.kind ≠ 29 ∧ m.kind ≠ 30 ∧ m.kind ≠ 31 ∧ m.kind ≠ 32 ∧ m.kind ≠ 33 ∧ m.kind ≠ 34 ∧ m.kind ≠ 35 ∧ m.kind ≠ 36 ∧ m.kind ≠ 37) := by omega
  rcases cs with hk | hk | hk | hk | hk | hk | hk | hk | hk | hk | hk | hk | hk | hk | hk | hk | hk | hk | hk
  iterate 18
    focus
      rw [hk]
      clear hk hs
      go_enter Try.func43, Try.ntmps43
      go_wp2_with fail
      go_ret
      exact ⟨rfl, Onw.alloc _ _⟩
  · have hh : 38 ≤ m.kind := by omega
    have e20 : (m.kind == 20) = false := by simp; omega
    have e21 : (m.kind == 21) = false := by simp; omega
    have e22 : (m.kind == 22) = false := by simp; omega
    have e23 : (m.kind == 23) = false := by simp; omega
    have e24 : (m.kind == 24) = false := by simp; omega
    have e25 : (m.kind == 25) = false := by simp; omega
    have e26 : (m.kind == 26) = false := by simp; omega
    have e27 : (m.kind == 27) = false := by simp; omega
    have e28 : (m.kind == 28) = false := by simp; omega
    have e29 : (m.kind == 29) = false := by simp; omega
    have e30 : (m.kind == 30) = false := by simp; omega
    have e31 : (m.kind == 31) = false := by simp; omega
    have e32 : (m.kind == 32) = false := by simp; omega
    have e33 : (m.kind == 33) = false := by simp; omega
    have e34 : (m.kind == 34) = false := by simp; omega
    have e35 : (m.kind == 35) = false := by simp; omega
    have e36 : (m.kind == 36) = false := by simp; omega
    have e37 : (m.kind == 37) = false := by simp; omega
    clear hk hs
    go_enter Try.func43, Try.ntmps43
    go_wp2_with fail
    refine (entryPiece_any m p kk kn kc _ hh).mono ?_
    rintro e w1 ⟨rfl, hb1⟩
    go_wp2_with fail
    go_ret
    exact ⟨rfl, (Onw.alloc _ _).trans hb1⟩
end Go.Proofs.Ytnokgdgikdgaeaa

namespace Go.Proofs.Ytnokgdgikdgaeaa
open Go.RowKit
attribute [local go_sem] run_store_float

theorem info_piece : (Try.prog.info? 56).map (fun i => (i.zero, i.size, i.bytes)) = some (some .nilIface, 1, 16) := by kernel_rfl
theorem run_make_pieces (n : Nat) (hn : n ≤ 1048576) (w : World) :
    (Instr.makeSlice 46 (.int .i64 n) (.int .i64 n)).run Try.prog w = .ok (.slice (some ⟨w.heap.size, 0, none⟩) n n) (w.alloc (.cells (madeCells #[.nilIface] n) 56)) := by
  obtain ⟨i0, hi, hz0, hz1, hz2⟩ := info_parts info_piece
  have := run_make (P := Try.prog) w 46 56 i0 _ Try.underlying46 hi hz0 .i64 .i64 n n (by omega) (by omega) (by rw [hz2]; omega) (by omega)
  simpa [hz1, Value.cells] using this

set_option maxRecDepth 100000 in
set_option maxHeartbeats 2000000 in
theorem pieceOf_big (m : PM) (pl : Nat) (a : Option Addr) (n c : Nat) (w : World) (h : ¬ slimP m.toPD) :
    Calls Try.prog 25 #[.int .i64 pl, .agg #[.int .i64 m.kind, .int .i64 m.frm, .int .i64 m.tto, .int .i64 m.line, .int .i64 m.op, .int .i64 m.num, .float .f64 m.flt, .string m.text, .slice m.na m.nn m.nc, .slice m.ka m.nk m.kc], .slice a n c] w fun e w' => e = .returned (.iface 73 (.agg #[.int .i64 pl, .int .i64 m.kind, .int .i64 m.frm, .int .i64 m.tto, .int .i64 m.line, .int .i64 m.op, .int .i64 m.num, .float .f64 m.flt, .string m.text, .slice m.na m.nn m.nc, .slice m.ka m.nk m.kc, .slice none 0 0])) ∧ Onw w w' := by
  have hh : (200 : Int) < m.nk ∨ (m.nk : Int) ≤ 200 ∧ (200 : Int) < m.nn := by
    have : ¬ (m.nk ≤ 200 ∧ m.nn ≤ 200) := h
    omega
  clear h
  rcases hh with h1 | ⟨h1, h2⟩
  · have d1 : decide ((200 : Int) < m.nk) = true := decide_eq_true h1
    go_enter Try.func25, Try.ntmps25
    go_wp2_with fail
    go_ret
    exact ⟨rfl, (Onw.alloc _ _).trans (Onw.alloc _ _)⟩
  · have d1 : decide ((200 : Int) < m.nk) = false := decide_eq_false (by omega)
    have d2 : decide ((200 : Int) < m.nn) = true := decide_eq_true h2
    go_enter Try.func25, Try.ntmps25
    go_wp2_with fail
    go_ret
    exact ⟨rfl, (Onw.alloc _ _).trans (Onw.alloc _ _)⟩

/-- The kid of a part, if it stands ahead. -/
def kidX (d : PD) (X : Nat → PX) (n : Nat) (j : Nat) : Option PX := if 0 ≤ d.kd j ∧ d.kd j < n then some (X (d.kd j).toNat) else none
def CArr (c : Array Value) (n : Nat) (f : Nat → Value) : Prop := c.size = n ∧ ∀ k, k < n → c[k]? = some (f k)
theorem CArr.set {c : Array Value} {n : Nat} {f : Nat → Value} (h : CArr c n f) (i : Nat) (v : Value) {g : Nat → Value} (hg : ∀ k, k < n → g k = if k = i then v else f k) : CArr (c.setIfInBounds i v) n g := by
  refine ⟨by simpa using h.1, fun k hk => ?_⟩
  rw [hg k hk]
  by_cases e : k = i
  · subst e; rw [if_pos rfl, Array.getElem?_setIfInBounds, if_pos rfl, if_pos (by rw [h.1]; exact hk)]
  · rw [if_neg e, Array.getElem?_setIfInBounds, if_neg (fun h => e h.symm)]; exact h.2 k hk
theorem CArr.congr {c : Array Value} {n : Nat} {f g : Nat → Value} (h : CArr c n f) (e : ∀ k, k < n → g k = f k) : CArr c n g := ⟨h.1, fun k hk => by rw [e k hk]; exact h.2 k hk⟩
theorem made_nil (n i : Nat) (h : i < n) : (madeCells #[.nilIface] n)[i]? = some .nilIface := by
  simp [madeCells, h, Nat.mod_one]

set_option maxRecDepth 100000 in
set_option maxHeartbeats 2000000 in
theorem pieceOf_slim (m : PM) (pl : Nat) (a : Option Addr) (n c : Nat) (X : Nat → PX) (w : World) (h : slimP m.toPD) (hn : n ≤ 1048576) (ha : ValsAt w a n (fun j => pv (some (X j)))) (hk : IntsAt w m.ka m.nk m.kd) :
    Calls Try.prog 25 #[.int .i64 pl, .agg #[.int .i64 m.kind, .int .i64 m.frm, .int .i64 m.tto, .int .i64 m.line, .int .i64 m.op, .int .i64 m.num, .float .f64 m.flt, .string m.text, .slice m.na m.nn m.nc, .slice m.ka m.nk m.kc], .slice a n c] w fun e w' => ∃ kb, e = .returned (.iface (partT m.kind) (.agg #[.int .i64 pl, .int .i64 m.kind, .int .i64 m.frm, .int .i64 m.tto, .int .i64 m.line, .int .i64 m.op, .int .i64 m.num, .float .f64 m.flt, .string m.text, .slice m.na m.nn m.nc, .slice m.ka m.nk m.kc, .slice (some ⟨kb, 0, none⟩) m.nk m.nk])) ∧ Onw w w' ∧ w.heap.size ≤ kb ∧ ValsAt w' (some ⟨kb, 0, none⟩) m.nk (fun j => pv (kidX m.toPD X n j)) := by
  have d1 : decide ((200 : Int) < m.nk) = false := decide_eq_false (by have := h.1; omega)
  have d2 : decide ((200 : Int) < m.nn) = false := decide_eq_false (by have := h.2; omega)
  have hkn : m.nk ≤ 1048576 := by have := h.1; omega
  have hmk := run_make_pieces m.nk hkn
  clear h
  have P0 := Blk.new w 41 #[.int .i64 m.kind, .int .i64 m.frm, .int .i64 m.tto, .int .i64 m.line, .int .i64 m.op, .int .i64 m.num, .float .f64 m.flt, .string m.text, .slice m.na m.nn m.nc, .slice m.ka m.nk m.kc]
  have O1 := Onw.alloc w (Obj.cells #[.int .i64 m.kind, .int .i64 m.frm, .int .i64 m.tto, .int .i64 m.line, .int .i64 m.op, .int .i64 m.num, .float .f64 m.flt, .string m.text, .slice m.na m.nn m.nc, .slice m.ka m.nk m.kc] 41)
  have H0 := Blk.new (w.alloc (Obj.cells #[.int .i64 m.kind, .int .i64 m.frm, .int .i64 m.tto, .int .i64 m.line, .int .i64 m.op, .int .i64 m.num, .float .f64 m.flt, .string m.text, .slice m.na m.nn m.nc, .slice m.ka m.nk m.kc] 41)) 60 #[.int .i64 pl, .int .i64 m.kind, .int .i64 m.frm, .int .i64 m.tto, .int .i64 m.line, .int .i64 m.op, .int .i64 m.num, .float .f64 m.flt, .string m.text, .slice m.na m.nn m.nc, .slice m.ka m.nk m.kc, .slice (some ⟨w.heap.size + 1 + 1, 0, none⟩) m.nk m.nk]
  have O2 := Onw.alloc (w.alloc (Obj.cells #[.int .i64 m.kind, .int .i64 m.frm, .int .i64 m.tto, .int .i64 m.line, .int .i64 m.op, .int .i64 m.num, .float .f64 m.flt, .string m.text, .slice m.na m.nn m.nc, .slice m.ka m.nk m.kc] 41)) (Obj.cells #[.int .i64 pl, .int .i64 m.kind, .int .i64 m.frm, .int .i64 m.tto, .int .i64 m.line, .int .i64 m.op, .int .i64 m.num, .float .f64 m.flt, .string m.text, .slice m.na m.nn m.nc, .slice m.ka m.nk m.kc, .slice (some ⟨w.heap.size + 1 + 1, 0, none⟩) m.nk m.nk] 60)
  have K0 := Blk.new ((w.alloc (Obj.cells #[.int .i64 m.kind, .int .i64 m.frm, .int .i64 m.tto, .int .i64 m.line, .int .i64 m.op, .int .i64 m.num, .float .f64 m.flt, .string m.text, .slice m.na m.nn m.nc, .slice m.ka m.nk m.kc] 41)).alloc (Obj.cells #[.int .i64 pl, .int .i64 m.kind, .int .i64 m.frm, .int .i64 m.tto, .int .i64 m.line, .int .i64 m.op, .int .i64 m.num, .float .f64 m.flt, .string m.text, .slice m.na m.nn m.nc, .slice m.ka m.nk m.kc, .slice (some ⟨w.heap.size + 1 + 1, 0, none⟩) m.nk m.nk] 60)) 56 (madeCells #[.nilIface] m.nk)
  have O3 := Onw.alloc ((w.alloc (Obj.cells #[.int .i64 m.kind, .int .i64 m.frm, .int .i64 m.tto, .int .i64 m.line, .int .i64 m.op, .int .i64 m.num, .float .f64 m.flt, .string m.text, .slice m.na m.nn m.nc, .slice m.ka m.nk m.kc] 41)).alloc (Obj.cells #[.int .i64 pl, .int .i64 m.kind, .int .i64 m.frm, .int .i64 m.tto, .int .i64 m.line, .int .i64 m.op, .int .i64 m.num, .float .f64 m.flt, .string m.text, .slice m.na m.nn m.nc, .slice m.ka m.nk m.kc, .slice (some ⟨w.heap.size + 1 + 1, 0, none⟩) m.nk m.nk] 60)) (Obj.cells (madeCells #[.nilIface] m.nk) 56)
  replace P0 := (P0.onw O2).onw O3
  replace H0 := H0.onw O3
  replace O1 := (O1.trans O2).trans O3
  clear O2 O3
  simp only [World.size_alloc] at H0 K0
  have A0 : CArr (madeCells #[.nilIface] m.nk) m.nk (fun j => if j < 0 then pv (kidX m.toPD X n j) else .nilIface) := ⟨size_madeCells _ _, fun k hk => by simp [made_nil m.nk k hk]⟩
  go_enter Try.func25, Try.ntmps25
  go_wp2_with fail
  clear hmk
  generalize ((w.alloc (Obj.cells #[.int .i64 m.kind, .int .i64 m.frm, .int .i64 m.tto, .int .i64 m.line, .int .i64 m.op, .int .i64 m.num, .float .f64 m.flt, .string m.text, .slice m.na m.nn m.nc, .slice m.ka m.nk m.kc] 41)).alloc (Obj.cells #[.int .i64 pl, .int .i64 m.kind, .int .i64 m.frm, .int .i64 m.tto, .int .i64 m.line, .int .i64 m.op, .int .i64 m.num, .float .f64 m.flt, .string m.text, .slice m.na m.nn m.nc, .slice m.ka m.nk m.kc, .slice (some ⟨w.heap.size + 1 + 1, 0, none⟩) m.nk m.nk] 60)).alloc (Obj.cells (madeCells #[.nilIface] m.nk) 56) = w2 at *
  generalize madeCells #[.nilIface] m.nk = c0 at K0 A0
  obtain ⟨KA, hKA⟩ : ∃ KA, m.ka = KA := ⟨_, rfl⟩
  have HKA : Hid _ := hKA
  rw [hKA] at P0 H0 hk ⊢
  clear hKA
  go_loopw [34] (fun i wr => ∃ (k : Nat) (cur : Array Value), k ≤ m.nk ∧ i = .int .i64 k ∧ Onw w wr ∧ Blk wr w.heap.size 41 #[.int .i64 m.kind, .int .i64 m.frm, .int .i64 m.tto, .int .i64 m.line, .int .i64 m.op, .int .i64 m.num, .float .f64 m.flt, .string m.text, .slice m.na m.nn m.nc, .slice KA m.nk m.kc] ∧ Blk wr (w.heap.size + 1) 60 #[.int .i64 pl, .int .i64 m.kind, .int .i64 m.frm, .int .i64 m.tto, .int .i64 m.line, .int .i64 m.op, .int .i64 m.num, .float .f64 m.flt, .string m.text, .slice m.na m.nn m.nc, .slice KA m.nk m.kc, .slice (some ⟨w.heap.size + 1 + 1, 0, none⟩) m.nk m.nk] ∧ Blk wr (w.heap.size + 1 + 1) 56 cur ∧ CArr cur m.nk (fun j => if j < k then pv (kidX m.toPD X n j) else .nilIface)) (fun i _ => m.nk - (intOf i).toNat)
  case atStart => exact ⟨0, c0, Nat.zero_le _, rfl, O1, P0, H0, K0, A0⟩
  case round =>
    clear O1 P0 H0 K0 A0
    obtain ⟨k, cur, hkk, rfl, ob, P0, H0, K0, A⟩ := hrel
    have HP : Hid _ := P0
    have HH : Hid _ := H0
    have HA : Hid _ := A
    clear P0 H0 A
    by_cases hlt : k < m.nk
    · obtain ⟨kb, ko, rfl, hcc⟩ := hk.onw ob (by omega)
      have hki := hcc k hlt
      have zk := cell_lt hki
      clear hcc
      by_cases hin : 0 ≤ m.kd k ∧ m.kd k < n
      · obtain ⟨i1, i2⟩ := hin
        have hw : Hid (withinB (m.kd k) n = true) := by show _ = _; simp [withinB]; omega
        obtain ⟨q, hq⟩ := Int.eq_ofNat_of_zero_le i1
        obtain ⟨b, off, rfl, hc⟩ := ha.onw ob (by omega)
        have c0 : wr.cell? ⟨b, off + q, none⟩ = some (pv (some (X q))) := hc q (by omega)
        have zb : b < w.heap.size := by
          obtain ⟨b', off', e, hc'⟩ := ha (by omega)
          cases e
          exact cell_lt (hc' q (by omega))
        have R : Hid (CArr (cur.setIfInBounds k (pv (some (X q)))) m.nk (fun j => if j < k + 1 then pv (kidX m.toPD X n j) else .nilIface)) := by
          refine CArr.set HA.out k _ fun x hx => ?_
          by_cases e : x = k
          · subst e
            simp only [if_pos (Nat.lt_succ_self x), if_true]
            unfold kidX; rw [if_pos ⟨i1, i2⟩, hq]; rfl
          · by_cases e2 : x < k
            · simp [e, e2, Nat.lt_succ_of_lt e2]
            · simp [e, e2]; intro h; omega
        have hwq : Hid (withinB (q : Int) n = true) := by show _ = _; rw [← hq]; exact hw.out
        rw [hq] at hki i2
        clear hc hq i1 hw
        have ev : pv (some (X q)) = .iface (ptT (X q).m.toPD) (X q).val := rfl
        rw [ev] at c0 R
        clear ev
        generalize ptT (X q).m.toPD = tq at c0 R
        generalize (X q).val = vq at c0 R
        have x11 : wr.cell? ⟨w.heap.size + 1, 11, none⟩ = some (.slice (some ⟨w.heap.size + 1 + 1, 0, none⟩) m.nk m.nk) := by rw [Blk.cell HH.out]; rfl
        obtain ⟨x0, g0⟩ := K0.some (j := k) (by rw [HA.out.1]; exact hlt)
        have hf := K0.free
        have ne1 : b ≠ w.heap.size + 1 + 1 := by omega
        have ne2 : w.heap.size + 1 + 1 ≠ b := by omega
        have q0 : (0 : Int) ≤ (q : Int) := by omega
        have k0 : (0 : Int) ≤ (k : Int) := by omega
        have k1 : (k : Int) < (m.nk : Int) := by omega
        go_wp2_with fail
        refine (within_any _ _ _).mono ?_
        rintro e w1 ⟨rfl, rfl⟩
        rw [hwq.out]
        go_wp2_with fail
        go_region_held3 (fun w' => w'.cell? ⟨w.heap.size + 1, 11, none⟩ = some (.slice (some ⟨w.heap.size + 1 + 1, 0, none⟩) m.nk m.nk) ∧ w'.cell? ⟨b, off + q, none⟩ = some (.iface tq vq)) (go_keep) (fail)
        go_wp2_with fail
        go_roundw
        case rel =>
          have OD : Onw (w1.setCell ⟨w.heap.size + 1 + 1, k, none⟩ (.iface tq vq)) (w1.setCell ⟨w.heap.size + 1 + 1, k, none⟩ (.iface tq vq)).drew := Below.drew (Onw.refl _)
          exact ⟨k + 1, _, by omega, by go_num, Below.drew (below_set ob (by omega) _), (Blk.kept (kept_setCell _ (w.heap.size + 1 + 1) k _) (by omega) HP.out).onw OD, (Blk.kept (kept_setCell _ (w.heap.size + 1 + 1) k _) (by omega) HH.out).onw OD, (K0.set k _).onw OD, R.out⟩
        case measure => simp [intOf]; omega
      · have hw : Hid (withinB (m.kd k) n = false) := by
          show _ = _
          rw [← Bool.not_eq_true]; simp [withinB]; omega
        have R : Hid (CArr cur m.nk (fun j => if j < k + 1 then pv (kidX m.toPD X n j) else .nilIface)) := by
          refine CArr.congr HA.out fun x hx => ?_
          by_cases e : x = k
          · subst e
            have : pv (kidX m.toPD X n x) = .nilIface := by unfold kidX; rw [if_neg hin]; rfl
            simp [this]
          · by_cases e2 : x < k
            · simp [e2, Nat.lt_succ_of_lt e2]
            · have : ¬ x < k + 1 := by omega
              simp [e2, this]
        clear hin
        go_wp2_with fail
        refine (within_any _ _ _).mono ?_
        rintro e w1 ⟨rfl, rfl⟩
        rw [hw.out]
        go_wp2_with fail
        go_roundw
        case rel => exact ⟨k + 1, _, by omega, by go_num, ob, HP.out, HH.out, K0, R.out⟩
        case measure => simp [intOf]; omega
    · obtain rfl : k = m.nk := by omega
      have bp := Blk.cell HP.out
      have bh := Blk.cell HH.out
      have V : Hid (ValsAt wr (some ⟨w.heap.size + 1 + 1, 0, none⟩) m.nk (fun j => pv (kidX m.toPD X n j))) := fun _ => ⟨_, 0, rfl, fun i hi => by
        rw [K0.cell, Nat.zero_add, HA.out.2 i hi]; simp [hi]⟩
      clear K0
      by_cases h20 : m.kind < 20
      · have d3 : decide (m.kind < 20) = true := decide_eq_true h20
        go_wp2_with fail
        refine (statementPiece_any { m with ka := KA } pl (some ⟨w.heap.size + 1 + 1, 0, none⟩) m.nk m.nk _ h20).mono ?_
        rintro e w2 ⟨rfl, hb2⟩
        go_wp2_with fail
        go_ret
        exact ⟨w.heap.size + 1 + 1, by rw [HKA.out]; rfl, ob.trans hb2, by omega, ValsAt.onw hb2 V.out⟩
      · have d3 : decide (m.kind < 20) = false := decide_eq_false h20
        have h20' : 20 ≤ m.kind := by omega
        go_wp2_with fail
        refine (expressionPiece_any { m with ka := KA } pl (some ⟨w.heap.size + 1 + 1, 0, none⟩) m.nk m.nk _ h20').mono ?_
        rintro e w2 ⟨rfl, hb2⟩
        go_wp2_with fail
        go_ret
        exact ⟨w.heap.size + 1 + 1, by rw [HKA.out]; rfl, ob.trans hb2, by omega, ValsAt.onw hb2 V.out⟩
end Go.Proofs.Ytnokgdgikdgaeaa

namespace Go.Proofs.Ytnokgdgikdgaeaa
open Go.RowKit
attribute [local go_sem] run_store_float

def pxOf (pm : Nat → PM) (pk : Nat → Option Addr) : Nat → PX := fun i => ⟨pm i, i, pk i⟩
/-- The pieces of n parts lie at ab; their kids lie behind lo. -/
def PiecesAt (w : World) (lo ab n : Nat) (pm : Nat → PM) (pk : Nat → Option Addr) : Prop :=
  ∀ i, i < n → w.cell? ⟨ab, i, none⟩ = some (pv (some (pxOf pm pk i))) ∧ ValsAt w (pk i) (knP (pm i).toPD) (fun j => pv (kidX (pm i).toPD (pxOf pm pk) i j)) ∧ Frm lo (pk i)
theorem ValsAt.kept {p : Nat → Prop} {w w' : World} (hk : Kept p w w') {a n f} (hp : ∀ x, a = some x → p x.block) (h : ValsAt w a n f) : ValsAt w' a n f := fun h0 => by
  obtain ⟨b, off, ha, hc⟩ := h h0
  exact ⟨b, off, ha, fun i hi => (hk.cell (hp _ ha)).trans (hc i hi)⟩
theorem PiecesAt.onw {w w' : World} (hb : Onw w w') {lo ab n pm pk} (h : PiecesAt w lo ab n pm pk) : PiecesAt w' lo ab n pm pk := fun i hi =>
  ⟨cell_onw hb (h i hi).1, (h i hi).2.1.onw hb, (h i hi).2.2⟩
theorem kidX_congr {d : PD} {X Y : Nat → PX} {n : Nat} (h : ∀ i, i < n → X i = Y i) (j : Nat) : kidX d X n j = kidX d Y n j := by
  unfold kidX
  by_cases e : 0 ≤ d.kd j ∧ d.kd j < n
  · rw [if_pos e, if_pos e, h _ (by omega)]
  · rw [if_neg e, if_neg e]

theorem pieceOf_any (m : PM) (pl : Nat) (a : Option Addr) (n c : Nat) (X : Nat → PX) (w : World) (hn : n ≤ 1048576) (ha : ValsAt w a n (fun j => pv (some (X j)))) (hk : IntsAt w m.ka m.nk m.kd) :
    Calls Try.prog 25 #[.int .i64 pl, .agg #[.int .i64 m.kind, .int .i64 m.frm, .int .i64 m.tto, .int .i64 m.line, .int .i64 m.op, .int .i64 m.num, .float .f64 m.flt, .string m.text, .slice m.na m.nn m.nc, .slice m.ka m.nk m.kc], .slice a n c] w fun e w' => ∃ tv vv k, e = .returned (.iface tv vv) ∧ (Value.iface tv vv) = pv (some ⟨m, pl, k⟩) ∧ Onw w w' ∧ ValsAt w' k (knP m.toPD) (fun j => pv (kidX m.toPD X n j)) ∧ Frm w.heap.size k := by
  by_cases h : slimP m.toPD
  · refine (pieceOf_slim m pl a n c X w h hn ha hk).mono ?_
    rintro e w' ⟨kb, rfl, ob, hb, hv⟩
    have hkn : knP m.toPD = m.nk := by unfold knP; rw [if_pos h]
    refine ⟨_, _, some ⟨kb, 0, none⟩, rfl, ?_, ob, by rw [hkn]; exact hv, fun x hx => by cases hx; exact hb⟩
    show _ = Value.iface (ptT m.toPD) _
    unfold ptT PX.val
    simp only [hkn]
    rw [if_pos h]
  · refine (pieceOf_big m pl a n c w h).mono ?_
    rintro e w' ⟨rfl, ob⟩
    have hkn : knP m.toPD = 0 := by unfold knP; rw [if_neg h]
    refine ⟨_, _, none, rfl, ?_, ob, by rw [hkn]; exact fun h => absurd h (Nat.not_lt_zero _), fun x hx => by cases hx⟩
    show _ = Value.iface (ptT m.toPD) _
    unfold ptT PX.val
    simp only [hkn]
    rw [if_neg h]

set_option maxRecDepth 100000 in
set_option maxHeartbeats 4000000 in
theorem piecesOf_any (np : Nat) (pm : Nat → PM) (pa : Option Addr) (pc : Nat) (w : World) (hn : np ≤ 1048576) (ha : PartsAt w pa np pm) :
    Calls Try.prog 15 #[.slice pa np pc] w fun e w' => ∃ ab pk, e = .returned (.slice (some ⟨ab, 0, none⟩) np np) ∧ Onw w w' ∧ PiecesAt w' (w.heap.size + 1) ab np pm pk := by
  have HA : Hid _ := ha
  clear ha
  have hmk := run_make_pieces np hn
  go_enter Try.func15, Try.ntmps15
  go_wp2_with fail
  clear hmk
  go_loopw [11] (fun i wr => ∃ (k : Nat) (pk : Nat → Option Addr) (cur : Array Value), k ≤ np ∧ i = .int .i64 k ∧ Onw w wr ∧ Blk wr w.heap.size 56 cur ∧ cur.size = np ∧ PiecesAt wr (w.heap.size + 1) w.heap.size k pm pk) (fun i _ => np - (intOf i).toNat)
  case atStart => exact ⟨0, fun _ => none, _, Nat.zero_le _, rfl, Onw.alloc _ _, Blk.new _ _ _, size_madeCells _ _, fun f hf => absurd hf (Nat.not_lt_zero _)⟩
  case round =>
    obtain ⟨k, pk, cur, hk, rfl, ob, B, hz, hP⟩ := hrel
    have HP : Hid _ := hP
    clear hP
    by_cases hlt : k < np
    · have hA := PartsAt.onw ob HA.out
      obtain ⟨b, off, rfl, hc⟩ := hA.1 (by omega)
      obtain ⟨c0, c1, c2, c3, c4, c5, c6, c7, c8, c9⟩ := hc k hlt
      have hI := (hA.2 k hlt).2
      have zb := cell_lt c0
      clear hc hA
      have fs := B.free
      have zB := B.lt
      obtain ⟨x0, g0⟩ := B.some (j := k) (by rw [hz]; exact hlt)
      have k0 : (0 : Int) ≤ (k : Int) := by omega
      have k1 : (k : Int) ≤ (np : Int) := by omega
      have k2 : (k : Int) < (np : Int) := by omega
      have ne0 : w.heap.size ≠ wr.heap.size := by omega
      have ne1 : wr.heap.size ≠ w.heap.size := by omega
      go_wp2_with fail
      have BP := Blk.new wr 41 #[.int .i64 (pm k).kind, .int .i64 (pm k).frm, .int .i64 (pm k).tto, .int .i64 (pm k).line, .int .i64 (pm k).op, .int .i64 (pm k).num, .float .f64 (pm k).flt, .string (pm k).text, .slice (pm k).na (pm k).nn (pm k).nc, .slice (pm k).ka (pm k).nk (pm k).kc]
      have OP := Onw.alloc wr (Obj.cells #[.int .i64 (pm k).kind, .int .i64 (pm k).frm, .int .i64 (pm k).tto, .int .i64 (pm k).line, .int .i64 (pm k).op, .int .i64 (pm k).num, .float .f64 (pm k).flt, .string (pm k).text, .slice (pm k).na (pm k).nn (pm k).nc, .slice (pm k).ka (pm k).nk (pm k).kc] 41)
      replace B := B.onw OP
      have HQ : Hid (PiecesAt _ (w.heap.size + 1) w.heap.size k pm pk) := PiecesAt.onw OP HP.out
      replace hI := hI.onw OP
      replace g0 := cell_onw OP g0
      clear c0 c1 c2 c3 c4 c5 c6 c7 c8 c9 fs
      have hw2 : wr.heap.size < (wr.alloc (Obj.cells #[.int .i64 (pm k).kind, .int .i64 (pm k).frm, .int .i64 (pm k).tto, .int .i64 (pm k).line, .int .i64 (pm k).op, .int .i64 (pm k).num, .float .f64 (pm k).flt, .string (pm k).text, .slice (pm k).na (pm k).nn (pm k).nc, .slice (pm k).ka (pm k).nk (pm k).kc] 41)).heap.size := by simp
      generalize wr.alloc (Obj.cells #[.int .i64 (pm k).kind, .int .i64 (pm k).frm, .int .i64 (pm k).tto, .int .i64 (pm k).line, .int .i64 (pm k).op, .int .i64 (pm k).num, .float .f64 (pm k).flt, .string (pm k).text, .slice (pm k).na (pm k).nn (pm k).nc, .slice (pm k).ka (pm k).nk (pm k).kc] 41) = w2 at *
      obtain ⟨G, hG⟩ : ∃ G, wr.heap.size = G := ⟨_, rfl⟩
      rw [hG] at BP ne0 ne1 hw2 zB ⊢
      clear hG
      have fs := B.free
      have VA : Hid (ValsAt w2 (some ⟨w.heap.size, 0, none⟩) k (fun j => pv (some (pxOf pm pk j)))) := fun _ => ⟨_, 0, rfl, fun j hj => by rw [Nat.zero_add]; exact (HQ.out j hj).1⟩
      have p0 : w2.cell? ⟨G, 0, none⟩ = some (.int .i64 (pm k).kind) := by rw [BP.cell]; rfl
      have p1 : w2.cell? ⟨G, 1, none⟩ = some (.int .i64 (pm k).frm) := by rw [BP.cell]; rfl
      have p2 : w2.cell? ⟨G, 2, none⟩ = some (.int .i64 (pm k).tto) := by rw [BP.cell]; rfl
      have p3 : w2.cell? ⟨G, 3, none⟩ = some (.int .i64 (pm k).line) := by rw [BP.cell]; rfl
      have p4 : w2.cell? ⟨G, 4, none⟩ = some (.int .i64 (pm k).op) := by rw [BP.cell]; rfl
      have p5 : w2.cell? ⟨G, 5, none⟩ = some (.int .i64 (pm k).num) := by rw [BP.cell]; rfl
      have p6 : w2.cell? ⟨G, 6, none⟩ = some (.float .f64 (pm k).flt) := by rw [BP.cell]; rfl
      have p7 : w2.cell? ⟨G, 7, none⟩ = some (.string (pm k).text) := by rw [BP.cell]; rfl
      have p8 : w2.cell? ⟨G, 8, none⟩ = some (.slice (pm k).na (pm k).nn (pm k).nc) := by rw [BP.cell]; rfl
      have p9 : w2.cell? ⟨G, 9, none⟩ = some (.slice (pm k).ka (pm k).nk (pm k).kc) := by rw [BP.cell]; rfl
      go_region_held3 (fun w' => w'.cell? ⟨G, 0, none⟩ = some (.int .i64 (pm k).kind) ∧ w'.cell? ⟨G, 1, none⟩ = some (.int .i64 (pm k).frm) ∧ w'.cell? ⟨G, 2, none⟩ = some (.int .i64 (pm k).tto) ∧ w'.cell? ⟨G, 3, none⟩ = some (.int .i64 (pm k).line) ∧ w'.cell? ⟨G, 4, none⟩ = some (.int .i64 (pm k).op) ∧ w'.cell? ⟨G, 5, none⟩ = some (.int .i64 (pm k).num) ∧ w'.cell? ⟨G, 6, none⟩ = some (.float .f64 (pm k).flt) ∧ w'.cell? ⟨G, 7, none⟩ = some (.string (pm k).text) ∧ w'.cell? ⟨G, 8, none⟩ = some (.slice (pm k).na (pm k).nn (pm k).nc) ∧ w'.cell? ⟨G, 9, none⟩ = some (.slice (pm k).ka (pm k).nk (pm k).kc)) (go_keep)
        (first | (go_at_call 25; refine (pieceOf_any (pm k) k _ _ _ (pxOf pm pk) _ (by omega) (by first | exact VA.out | exact ValsAt.onw (Below.drew (Onw.refl _)) VA.out) (by first | exact hI | exact hI.onw (Below.drew (Onw.refl _)))).mono ?_; rintro e w3 ⟨tv, vv, kk, rfl, hpv, hb3, hV, hF⟩; have HPV : Hid _ := hpv; have HV : Hid _ := hV; have HF : Hid _ := hF; clear hpv hV hF; have O1 : Onw w2 w3 := Onw.trans (Below.drew (Onw.refl _)) hb3; have q0 := cell_onw O1 p0; have q1 := cell_onw O1 p1; have q2 := cell_onw O1 p2; have q3 := cell_onw O1 p3; have q4 := cell_onw O1 p4; have q5 := cell_onw O1 p5; have q6 := cell_onw O1 p6; have q7 := cell_onw O1 p7; have q8 := cell_onw O1 p8; have q9 := cell_onw O1 p9; have qg := cell_onw O1 g0; have fs1 := (B.onw O1).free))
      go_wp2_with fail
      go_roundw
      case rel =>
        have B3 := B.onw O1
        have B4 := B3.set k (.iface tv vv)
        have hsz : cur.size = np := hz
        have F1 : Frm w2.heap.size kk := HF.out
        have same : ∀ i, i < k → pxOf pm pk i = pxOf pm (fun i => if i = k then kk else pk i) i := fun i hi => by
          unfold pxOf; simp only [if_neg (Nat.ne_of_lt hi)]
        have KS : Kept (· ≠ w.heap.size) w3 (w3.setCell ⟨w.heap.size, k, none⟩ (.iface tv vv)) := kept_setCell _ _ _ _
        refine ⟨k + 1, fun i => if i = k then kk else pk i, _, by omega, by go_num, below_set ((ob.trans OP).trans O1) (Nat.le_refl _) _, B4, by simp [hz], fun i hi => ?_⟩
        by_cases e : i = k
        · subst e
          have hp : pxOf pm (fun j => if j = i then kk else pk j) i = ⟨pm i, i, kk⟩ := by unfold pxOf; simp only [if_true]
          refine ⟨?_, ?_, ?_⟩
          · rw [Blk.cell B4, hp, ← HPV.out]; simp [hz, hlt]
          · simp only [if_true]
            have hv : ValsAt w3 kk (knP (pm i).toPD) (fun j => pv (kidX (pm i).toPD (pxOf pm (fun j => if j = i then kk else pk j)) i j)) := by
              have := HV.out
              simp only [kidX_congr same] at this
              exact this
            exact hv.kept KS fun x hx => by have := F1 x hx; omega
          · simp only [if_true]
            exact F1.mono (by omega)
        · have hik : i < k := by omega
          obtain ⟨h1, h2, h3⟩ := HQ.out i hik
          refine ⟨?_, ?_, ?_⟩
          · rw [Blk.cell B4, ← same i hik, Array.getElem?_setIfInBounds, if_neg (fun h => e h.symm)]
            exact (B.cell i).symm.trans h1
          · simp only [if_neg e]
            have hv : ValsAt w3 (pk i) (knP (pm i).toPD) (fun j => pv (kidX (pm i).toPD (pxOf pm (fun j => if j = k then kk else pk j)) i j)) := by
              have := h2.onw O1
              simp only [kidX_congr (fun j hj => same j (Nat.lt_trans hj hik))] at this
              exact this
            exact hv.kept KS fun x hx => by have := h3 x hx; omega
          · simp only [if_neg e]; exact h3
      case measure => simp [intOf]; omega
    · obtain rfl : k = np := by omega
      go_wp2_with fail
      go_ret
      exact ⟨_, pk, rfl, ob, HP.out⟩
end Go.Proofs.Ytnokgdgikdgaeaa

namespace Go.Proofs.Ytnokgdgikdgaeaa
open Go.RowKit
set_option linter.defProp false

def MethOk (t : TypeId) (s : String) (f : FuncId) : Prop := ∀ (v0 v1 v2 v3 v4 v5 v6 v7 v8 v9 v10 v11 : Value) (w : World), Sem.run Try.prog (method 247 t (.agg #[v0, v1, v2, v3, v4, v5, v6, v7, v8, v9, v10, v11]) s) w = .ok (f, .agg #[v0, v1, v2, v3, v4, v5, v6, v7, v8, v9, v10, v11]) w
def IsOk (T : TypeId) : Prop := ∀ (t : TypeId) (v : Value) (w : World), Sem.run Try.prog (Instr.typeAssert (.iface t v) 56 T true) w = Sem.run Try.prog (if t = T then pure (.tuple #[v, .bool true]) else (do let z ← zeroValue T; pure (.tuple #[z, .bool false]))) w
def ZeroOk (T : TypeId) : Prop := ∀ w : World, Sem.run Try.prog (do let z ← zeroValue T; pure (Value.tuple #[z, .bool false])) w = .ok (Value.tuple #[.agg #[.int .i64 0, .int .i64 0, .int .i64 0, .int .i64 0, .int .i64 0, .int .i64 0, .int .i64 0, .float .f64 0, .string ByteArray.empty, .slice none 0 0, .slice none 0 0, .slice none 0 0], .bool false]) w
theorem as_yes {T : TypeId} (h : IsOk T) (v : Value) (w : World) : Sem.run Try.prog (Instr.typeAssert (.iface T v) 56 T true) w = .ok (.tuple #[v, .bool true]) w := by
  rw [h, if_pos rfl]; rfl
theorem as_no {T t : TypeId} (h : IsOk T) (z : ZeroOk T) (hne : t ≠ T) (v : Value) (w : World) : Sem.run Try.prog (Instr.typeAssert (.iface t v) 56 T true) w = .ok (.tuple #[.agg #[.int .i64 0, .int .i64 0, .int .i64 0, .int .i64 0, .int .i64 0, .int .i64 0, .int .i64 0, .float .f64 0, .string ByteArray.empty, .slice none 0 0, .slice none 0 0, .slice none 0 0], .bool false]) w := by
  rw [h, if_neg hne]; exact z w
theorem ti_block : IsOk 81 := fun _ _ _ => by kernel_rfl
def as_block_yes := as_yes ti_block
theorem tz_block : ZeroOk 81 := fun _ => by kernel_rfl
def as_block_no {t : TypeId} (h : t ≠ 81) := as_no ti_block tz_block h
theorem ti_let : IsOk 84 := fun _ _ _ => by kernel_rfl
def as_let_yes := as_yes ti_let
theorem tz_let : ZeroOk 84 := fun _ => by kernel_rfl
def as_let_no {t : TypeId} (h : t ≠ 84) := as_no ti_let tz_let h
theorem ti_const : IsOk 85 := fun _ _ _ => by kernel_rfl
def as_const_yes := as_yes ti_const
theorem tz_const : ZeroOk 85 := fun _ => by kernel_rfl
def as_const_no {t : TypeId} (h : t ≠ 85) := as_no ti_const tz_const h
theorem ti_ownFn : IsOk 87 := fun _ _ _ => by kernel_rfl
def as_ownFn_yes := as_yes ti_ownFn
theorem tz_ownFn : ZeroOk 87 := fun _ => by kernel_rfl
def as_ownFn_no {t : TypeId} (h : t ≠ 87) := as_no ti_ownFn tz_ownFn h
theorem ti_set : IsOk 88 := fun _ _ _ => by kernel_rfl
def as_set_yes := as_yes ti_set
theorem tz_set : ZeroOk 88 := fun _ => by kernel_rfl
def as_set_no {t : TypeId} (h : t ≠ 88) := as_no ti_set tz_set h
theorem ti_do : IsOk 90 := fun _ _ _ => by kernel_rfl
def as_do_yes := as_yes ti_do
theorem tz_do : ZeroOk 90 := fun _ => by kernel_rfl
def as_do_no {t : TypeId} (h : t ≠ 90) := as_no ti_do tz_do h
theorem ti_if : IsOk 91 := fun _ _ _ => by kernel_rfl
def as_if_yes := as_yes ti_if
theorem tz_if : ZeroOk 91 := fun _ => by kernel_rfl
def as_if_no {t : TypeId} (h : t ≠ 91) := as_no ti_if tz_if h
theorem ti_while : IsOk 92 := fun _ _ _ => by kernel_rfl
def as_while_yes := as_yes ti_while
theorem tz_while : ZeroOk 92 := fun _ => by kernel_rfl
def as_while_no {t : TypeId} (h : t ≠ 92) := as_no ti_while tz_while h
theorem ti_for : IsOk 93 := fun _ _ _ => by kernel_rfl
def as_for_yes := as_yes ti_for
theorem tz_for : ZeroOk 93 := fun _ => by kernel_rfl
def as_for_no {t : TypeId} (h : t ≠ 93) := as_no ti_for tz_for h
theorem ti_each : IsOk 94 := fun _ _ _ => by kernel_rfl
def as_each_yes := as_yes ti_each
theorem tz_each : ZeroOk 94 := fun _ => by kernel_rfl
def as_each_no {t : TypeId} (h : t ≠ 94) := as_no ti_each tz_each h
theorem ti_jump : IsOk 95 := fun _ _ _ => by kernel_rfl
def as_jump_yes := as_yes ti_jump
theorem tz_jump : ZeroOk 95 := fun _ => by kernel_rfl
def as_jump_no {t : TypeId} (h : t ≠ 95) := as_no ti_jump tz_jump h
theorem ti_return : IsOk 96 := fun _ _ _ => by kernel_rfl
def as_return_yes := as_yes ti_return
theorem tz_return : ZeroOk 96 := fun _ => by kernel_rfl
def as_return_no {t : TypeId} (h : t ≠ 96) := as_no ti_return tz_return h
theorem ti_try : IsOk 97 := fun _ _ _ => by kernel_rfl
def as_try_yes := as_yes ti_try
theorem tz_try : ZeroOk 97 := fun _ => by kernel_rfl
def as_try_no {t : TypeId} (h : t ≠ 97) := as_no ti_try tz_try h
theorem ti_throw : IsOk 98 := fun _ _ _ => by kernel_rfl
def as_throw_yes := as_yes ti_throw
theorem tz_throw : ZeroOk 98 := fun _ => by kernel_rfl
def as_throw_no {t : TypeId} (h : t ≠ 98) := as_no ti_throw tz_throw h
theorem ti_bare : IsOk 100 := fun _ _ _ => by kernel_rfl
def as_bare_yes := as_yes ti_bare
theorem tz_bare : ZeroOk 100 := fun _ => by kernel_rfl
def as_bare_no {t : TypeId} (h : t ≠ 100) := as_no ti_bare tz_bare h
theorem ti_int : IsOk 102 := fun _ _ _ => by kernel_rfl
def as_int_yes := as_yes ti_int
theorem tz_int : ZeroOk 102 := fun _ => by kernel_rfl
def as_int_no {t : TypeId} (h : t ≠ 102) := as_no ti_int tz_int h
theorem ti_flt : IsOk 103 := fun _ _ _ => by kernel_rfl
def as_flt_yes := as_yes ti_flt
theorem tz_flt : ZeroOk 103 := fun _ => by kernel_rfl
def as_flt_no {t : TypeId} (h : t ≠ 103) := as_no ti_flt tz_flt h
theorem ti_str : IsOk 105 := fun _ _ _ => by kernel_rfl
def as_str_yes := as_yes ti_str
theorem tz_str : ZeroOk 105 := fun _ => by kernel_rfl
def as_str_no {t : TypeId} (h : t ≠ 105) := as_no ti_str tz_str h
theorem ti_name : IsOk 106 := fun _ _ _ => by kernel_rfl
def as_name_yes := as_yes ti_name
theorem tz_name : ZeroOk 106 := fun _ => by kernel_rfl
def as_name_no {t : TypeId} (h : t ≠ 106) := as_no ti_name tz_name h
theorem ti_rest : IsOk 101 := fun _ _ _ => by kernel_rfl
def as_rest_yes := as_yes ti_rest
theorem tz_rest : ZeroOk 101 := fun _ => by kernel_rfl
def as_rest_no {t : TypeId} (h : t ≠ 101) := as_no ti_rest tz_rest h
theorem ti_either : IsOk 107 := fun _ _ _ => by kernel_rfl
def as_either_yes := as_yes ti_either
theorem tz_either : ZeroOk 107 := fun _ => by kernel_rfl
def as_either_no {t : TypeId} (h : t ≠ 107) := as_no ti_either tz_either h
theorem ti_unary : IsOk 108 := fun _ _ _ => by kernel_rfl
def as_unary_yes := as_yes ti_unary
theorem tz_unary : ZeroOk 108 := fun _ => by kernel_rfl
def as_unary_no {t : TypeId} (h : t ≠ 108) := as_no ti_unary tz_unary h
theorem ti_binary : IsOk 109 := fun _ _ _ => by kernel_rfl
def as_binary_yes := as_yes ti_binary
theorem tz_binary : ZeroOk 109 := fun _ => by kernel_rfl
def as_binary_no {t : TypeId} (h : t ≠ 109) := as_no ti_binary tz_binary h
theorem ti_index : IsOk 110 := fun _ _ _ => by kernel_rfl
def as_index_yes := as_yes ti_index
theorem tz_index : ZeroOk 110 := fun _ => by kernel_rfl
def as_index_no {t : TypeId} (h : t ≠ 110) := as_no ti_index tz_index h
theorem ti_field : IsOk 111 := fun _ _ _ => by kernel_rfl
def as_field_yes := as_yes ti_field
theorem tz_field : ZeroOk 111 := fun _ => by kernel_rfl
def as_field_no {t : TypeId} (h : t ≠ 111) := as_no ti_field tz_field h
theorem ti_call : IsOk 112 := fun _ _ _ => by kernel_rfl
def as_call_yes := as_yes ti_call
theorem tz_call : ZeroOk 112 := fun _ => by kernel_rfl
def as_call_no {t : TypeId} (h : t ≠ 112) := as_no ti_call tz_call h
theorem ti_table : IsOk 113 := fun _ _ _ => by kernel_rfl
def as_table_yes := as_yes ti_table
theorem tz_table : ZeroOk 113 := fun _ => by kernel_rfl
def as_table_no {t : TypeId} (h : t ≠ 113) := as_no ti_table tz_table h
theorem ti_fn : IsOk 114 := fun _ _ _ => by kernel_rfl
def as_fn_yes := as_yes ti_fn
theorem tz_fn : ZeroOk 114 := fun _ => by kernel_rfl
def as_fn_no {t : TypeId} (h : t ≠ 114) := as_no ti_fn tz_fn h
theorem ti_one : IsOk 116 := fun _ _ _ => by kernel_rfl
def as_one_yes := as_yes ti_one
theorem tz_one : ZeroOk 116 := fun _ => by kernel_rfl
def as_one_no {t : TypeId} (h : t ≠ 116) := as_no ti_one tz_one h
theorem ti_item : IsOk 119 := fun _ _ _ => by kernel_rfl
def as_item_yes := as_yes ti_item
theorem tz_item : ZeroOk 119 := fun _ => by kernel_rfl
def as_item_no {t : TypeId} (h : t ≠ 119) := as_no ti_item tz_item h
theorem ti_pair : IsOk 120 := fun _ _ _ => by kernel_rfl
def as_pair_yes := as_yes ti_pair
theorem tz_pair : ZeroOk 120 := fun _ => by kernel_rfl
def as_pair_no {t : TypeId} (h : t ≠ 120) := as_no ti_pair tz_pair h
theorem ti_named : IsOk 121 := fun _ _ _ => by kernel_rfl
def as_named_yes := as_yes ti_named
theorem tz_named : ZeroOk 121 := fun _ => by kernel_rfl
def as_named_no {t : TypeId} (h : t ≠ 121) := as_no ti_named tz_named h
def leastK (k : Int) : FuncId := if 1 ≤ k ∧ k ≤ 16 then 81 else 78
def leastFn (d : PD) : FuncId := @ite _ (slimP d) (slimD d) (leastK d.kind) 78
set_option maxRecDepth 100000 in
theorem meth_top_k (k : Int) : MethOk (partT k) "loop.example/reed/impl.top" 79 := by
  rcases kinds_all k with h | h | h | h | h | h | h | h | h | h | h | h | h | h | h | h | h | h | h | h | h | h | h | h | h | h | h | h | h | h | h | h | h | h | h | h | h | ⟨h, _, h2⟩
  all_goals (rw [h]; intro v0 v1 v2 v3 v4 v5 v6 v7 v8 v9 v10 v11 w; kernel_rfl)
theorem meth_top (d : PD) : MethOk (ptT d) "loop.example/reed/impl.top" 79 := by
  unfold ptT
  by_cases h : slimP d
  · rw [if_pos h]; exact meth_top_k _
  · rw [if_neg h]; intro v0 v1 v2 v3 v4 v5 v6 v7 v8 v9 v10 v11 w; kernel_rfl
set_option maxRecDepth 100000 in
theorem meth_least_k (k : Int) : MethOk (partT k) "loop.example/reed/impl.leastLine" (leastK k) := by
  rcases kinds_all k with h | h | h | h | h | h | h | h | h | h | h | h | h | h | h | h | h | h | h | h | h | h | h | h | h | h | h | h | h | h | h | h | h | h | h | h | h | ⟨h, _, h2⟩
  iterate 37 (focus (rw [h]; intro v0 v1 v2 v3 v4 v5 v6 v7 v8 v9 v10 v11 w; kernel_rfl))
  rw [h, show leastK k = 78 from if_neg (by omega)]
  intro v0 v1 v2 v3 v4 v5 v6 v7 v8 v9 v10 v11 w; kernel_rfl
theorem meth_leastLine (d : PD) : MethOk (ptT d) "loop.example/reed/impl.leastLine" (leastFn d) := by
  unfold ptT leastFn
  by_cases h : slimP d
  · rw [if_pos h, if_pos h]; exact meth_least_k _
  · rw [if_neg h, if_neg h]; intro v0 v1 v2 v3 v4 v5 v6 v7 v8 v9 v10 v11 w; kernel_rfl
theorem meth_top_block : MethOk 81 "loop.example/reed/impl.top" 79 := meth_top_k 1
theorem meth_top_for : MethOk 93 "loop.example/reed/impl.top" 79 := meth_top_k 9
theorem meth_top_each : MethOk 94 "loop.example/reed/impl.top" 79 := meth_top_k 10
theorem meth_top_try : MethOk 97 "loop.example/reed/impl.top" 79 := meth_top_k 14
end Go.Proofs.Ytnokgdgikdgaeaa
