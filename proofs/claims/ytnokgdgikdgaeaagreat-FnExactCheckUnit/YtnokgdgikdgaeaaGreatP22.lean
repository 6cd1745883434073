import Derived.Test.YtnokgdgikdgaeaaGreatP01
import Derived.Test.YtnokgdgikdgaeaaGreatP14
import Derived.Test.YtnokgdgikdgaeaaGreatP15
import Derived.Test.YtnokgdgikdgaeaaGreatP21
import Derived.Deep.Slices
import Derived.Deep.Fields
import Derived.SizedLaws
import Derived.ProofKit
namespace Go.Proofs.YtnokgdgikdgaeaaGreat
open Go.RowKit
attribute [local go_sem] run_store_float

theorem NodesRel.stepC {wr w1 : World} {g n k : Nat} {nm nm' : Nat → NM} {cur : Array Value} (R : NodesRel wr g n k nm nm' cur) (hkn : k < n) (hb : Onw wr w1) (a' a'' : Option Addr)
    (i1 : IntsAt w1 a' (nm k).nr (nm k).rf) (i2 : IntsAt w1 a'' (nm k).nk (nm k).kd) (f1 : Frm wr.heap.size a') (f2 : Frm wr.heap.size a'') :
    ∃ cur', NodesRel (w1.setCells g (k * 8) [.int .i64 (nm k).kind, .int .i64 (nm k).line, .int .i64 (nm k).op, .int .i64 (nm k).num, .float .f64 (nm k).flt, .string (nm k).str, .slice a' (nm k).nr (nm k).nr, .slice a'' (nm k).nk (nm k).nk]) g n (k + 1) nm (fun i => if i = k then ⟨(nm k).toND, a', (nm k).nr, a'', (nm k).nk⟩ else nm' i) cur' := by
  obtain ⟨h1, h2, h3, h4, h5, h6⟩ := R
  have hlt := h1.lt
  refine ⟨_, Blk.setL _ _ _ (k * 8) (h1.onw hb), ?_, ?_, ?_, ?_, ?_⟩
  · rw [size_setL]; exact h2
  · intro i
    by_cases e : i = k
    · subst e; simp
    · simp [e]; exact h3 i
  · intro i hi j hj
    by_cases e : i = k
    · subst e
      simp only [if_true]
      rw [get_setL_in _ _ _ _ (by simp; omega) (by simpa using hj)]
      simp [NM.val]
    · simp only [e, if_false]
      rw [get_setL_out _ _ _ _ (by simp; omega)]
      exact h4 i (by omega) j hj
  · intro i hi
    by_cases e : i = k
    · subst e
      simp only [if_true]
      exact NM.At.kept (kept_setL _ _ _) (fun x hx => by have := f1 x hx; omega) (fun x hx => by have := f2 x hx; omega) ⟨i1, i2⟩
    · simp only [e, if_false]
      have := h6 i (by omega)
      exact NM.At.kept (kept_setL _ _ _) (fun x hx => by have := this.1 x hx; omega) (fun x hx => by have := this.2 x hx; omega) ((h5 i (by omega)).onw hb)
  · intro i hi
    by_cases e : i = k
    · subst e
      simp only [if_true]
      exact ⟨f1.mono (by omega), f2.mono (by omega)⟩
    · simp only [e, if_false]
      exact h6 i (by omega)

set_option maxHeartbeats 1000000 in
theorem toNodeS_cap (a : Option Addr) (n c : Nat) (nm : Nat → NM) (w : World) (hn : n ≤ 1048576) (hs : ∀ i, i < n → (nm i).nr ≤ 1048576 ∧ (nm i).nk ≤ 1048576) (ha : NodesAt w a n nm) :
    Calls Tryz.prog 56 #[.slice a n c] w fun e w' => ∃ a' nm', e = .returned (.slice a' n n) ∧ Onw w w' ∧ NodesAt w' a' n nm' ∧ (∀ i, (nm' i).toND = (nm i).toND) ∧ Frm w.heap.size a' ∧ (∀ i, i < n → (nm' i).Frm w.heap.size) ∧ ∀ i, i < n → (nm' i).nk ≤ (nm' i).kc := by
  have hmk := run_make_nodes n hn
  go_enter Tryz.func56, Tryz.ntmps56
  go_wp2
  go_loopw [4] (fun i wr => ∃ k : Nat, k ≤ n ∧ i = .int .i64 k ∧ Onw w wr ∧ ∃ nm' cur, NodesRel wr w.heap.size n k nm nm' cur ∧ ∀ i, i < k → (nm' i).nk ≤ (nm' i).kc) (fun i _ => n - (intOf i).toNat)
  case atStart => exact ⟨0, Nat.zero_le _, rfl, Onw.alloc _ _, nm, _, ⟨Blk.new _ _ _, by simp [size_madeCells], fun i => rfl, fun i hi => by omega, fun i hi => by omega, fun i hi => by omega⟩, fun i hi => by omega⟩
  case round =>
    obtain ⟨k, hk, rfl, hb, nm', cur, R, hcp⟩ := hrel
    have HCP : Hid _ := hcp
    clear hcp
    clear hmk
    by_cases hlt : k < n
    · obtain ⟨b, off, rfl, hc⟩ := (ha.onw hb).1 (by omega)
      obtain ⟨c0, c1, c2, c3, c4, c5, c6, c7⟩ := hc k hlt
      have hsk := hs k hlt
      have HS : Hid _ := hs
      clear hc hs
      go_wp2_with fail
      refine (toNode_any (nm k) _ hsk.1 hsk.2 ((ha.2 k hlt).onw hb)).mono ?_
      rintro e w1 ⟨a', a'', rfl, hb1, i1, i2, f1, f2⟩
      have hbl1 := R.blk.onw hb1
      have hf := hbl1.free
      have hz : w.heap.size < w1.heap.size := hbl1.lt
      obtain ⟨cur', R'⟩ := R.stepC hlt hb1 a' a'' i1 i2 f1 f2
      have hsz := R.size
      obtain ⟨x0, g0⟩ := hbl1.some (j := k * 8) (by omega)
      obtain ⟨x1, g1⟩ := hbl1.some (j := k * 8 + 1) (by omega)
      obtain ⟨x2, g2⟩ := hbl1.some (j := k * 8 + 2) (by omega)
      obtain ⟨x3, g3⟩ := hbl1.some (j := k * 8 + 3) (by omega)
      obtain ⟨x4, g4⟩ := hbl1.some (j := k * 8 + 4) (by omega)
      obtain ⟨x5, g5⟩ := hbl1.some (j := k * 8 + 5) (by omega)
      obtain ⟨x6, g6⟩ := hbl1.some (j := k * 8 + 6) (by omega)
      obtain ⟨x7, g7⟩ := hbl1.some (j := k * 8 + 7) (by omega)
      clear c0 c1 c2 c3 c4 c5 c6 c7 hsz
      go_wp2_with fail
      go_roundw
      case rel => exact ⟨k + 1, by omega, by go_num, below_setL (Nat.le_refl _) [_, _, _, _, _, _, _, _] _ _ (k * 8) (hb.trans hb1), _, cur', R', fun i hi => by
        by_cases e : i = k
        · subst e; simp only [if_true]; exact Nat.le_refl _
        · simp only [if_neg e]; exact HCP.out i (by omega)⟩
      case measure => simp [intOf]; omega
    · go_wp2
      go_ret
      have : k = n := by omega
      subst this
      exact ⟨_, nm', rfl, hb, ⟨fun _ => ⟨_, 0, rfl, fun i hi => by rw [Nat.zero_add]; exact (R.cells i hi).cells R.blk⟩, R.lies⟩, R.data, fun x hx => by cases hx; exact Nat.le_refl _, fun i hi => (R.frm i hi).mono (by omega), HCP.out⟩

set_option maxHeartbeats 2000000 in
theorem toFn_cap (m : FM) (w : World) (hv : m.nv ≤ 1048576) (hu : m.nu ≤ 1048576) (hn : m.nn ≤ 1048576) (hs : ∀ i, i < m.nn → (m.nm i).nr ≤ 1048576 ∧ (m.nm i).nk ≤ 1048576) (ha : m.At w) :
    Calls Tryz.prog 37 #[.agg #[.string m.name, .int .i64 m.line, .int .i64 m.params, .bool m.rest, .slice m.va m.nv m.vc, .slice m.ua m.nu m.uc, .slice m.na m.nn m.nc]] w fun e w' => ∃ m' : FM, e = .returned (.agg #[.string m'.name, .int .i64 m'.line, .int .i64 m'.params, .bool m'.rest, .slice m'.va m'.nv m'.vc, .slice m'.ua m'.nu m'.uc, .slice m'.na m'.nn m'.nc]) ∧ Onw w w' ∧ m'.At w' ∧ m'.Frm w.heap.size ∧ m'.toFD = m.toFD ∧ m'.nn ≤ m'.nc ∧ ∀ i, i < m'.nn → (m'.nm i).nk ≤ (m'.nm i).kc := by
  obtain ⟨a1, a2, a3⟩ := ha
  have HS : Hid _ := hs
  clear hs
  go_enter Tryz.func37, Tryz.ntmps37
  go_wp2_with fail
  refine (toStringS_any _ _ _ m.vr _ hv (by exact a1.onw (((Onw.alloc _ _).trans (Onw.alloc _ _)).trans (Onw.alloc _ _)))).mono ?_
  rintro e w1 ⟨va, rfl, hb1, hi1, hf1⟩
  have ob : Onw w w1 := Onw.trans (((Onw.alloc _ _).trans (Onw.alloc _ _)).trans (Onw.alloc _ _)) hb1
  have B0 := (Blk.new w 57 #[.string m.name, .int .i64 m.line, .int .i64 m.params, .bool m.rest, .slice m.va m.nv m.vc, .slice m.ua m.nu m.uc, .slice m.na m.nn m.nc]).onw (((Onw.alloc _ _).trans (Onw.alloc _ _)).trans hb1)
  have B1 := Blk.onw ((Onw.alloc _ _).trans hb1) (Blk.new _ 61 _)
  have B2 := Blk.onw hb1 (Blk.new _ 61 _)
  have hz : w.heap.size + 1 + 1 < w1.heap.size := by have := hb1.size; simp at this; omega
  simp only [World.size_alloc] at B1 B2 hf1
  clear hb1
  have c0 := B0.cell
  have c2 := B2.cell
  have f2 := B2.free
  go_wp2_with fail
  have K1 := kept_setCell w1 (w.heap.size + 1 + 1) 4 (.slice va m.nv m.nv)
  have ob2 : Onw w (w1.setCell ⟨w.heap.size + 1 + 1, 4, none⟩ (.slice va m.nv m.nv)) := below_set ob (by omega) _
  have B0' := Blk.kept K1 (by omega) B0
  have B1' := Blk.kept K1 (by omega) B1
  have B2' := B2.set 4 (.slice va m.nv m.nv)
  have hi1' := hi1.kept K1 (fun x hx => by have := hf1 x hx; omega)
  clear hi1 B0 B1 B2 c0 c2 f2 K1
  refine (toUpS_any _ _ _ m.ul m.ui _ hu (by exact a2.onw ob2)).mono ?_
  rintro e w2 ⟨ua, rfl, hb2, hi2, hf2⟩
  have hz2 : w.heap.size + 1 + 1 < w2.heap.size := by have := hb2.size; simp at this; omega
  have B0 := Blk.onw hb2 B0'
  have B1 := Blk.onw hb2 B1'
  have B2 := Blk.onw hb2 B2'
  have i1 := hi1'.onw hb2
  have ob3 := ob2.trans hb2
  simp only [World.size_setCell] at hf2
  clear hb2 hi1' B0' B1' B2' ob2 ob
  have c0 := B0.cell
  have c2 := B2.cell
  have f2 := B2.free
  go_wp2_with fail
  have K2 := kept_setCell w2 (w.heap.size + 1 + 1) 5 (.slice ua m.nu m.nu)
  have ob4 : Onw w (w2.setCell ⟨w.heap.size + 1 + 1, 5, none⟩ (.slice ua m.nu m.nu)) := below_set ob3 (by omega) _
  have B1' := Blk.kept K2 (by omega) B1
  have B2' := B2.set 5 (.slice ua m.nu m.nu)
  have hi1' := i1.kept K2 (fun x hx => by have := hf1 x hx; omega)
  have hi2' := hi2.kept K2 (fun x hx => by have := hf2 x hx; omega)
  clear i1 hi2 B0 B1 B2 c0 c2 f2 K2 ob3
  refine (toNodeS_cap _ _ _ m.nm _ hn HS.out (by exact a3.onw ob4)).mono ?_
  rintro e w3 ⟨na, nm', rfl, hb3, hi3, hd3, hf3, hg3, hcp⟩
  have HCP : Hid _ := hcp
  clear hcp
  have hz3 : w.heap.size + 1 + 1 < w3.heap.size := by have := hb3.size; simp at this; omega
  have B1 := Blk.onw hb3 B1'
  have B2 := Blk.onw hb3 B2'
  have i1 := hi1'.onw hb3
  have i2 := hi2'.onw hb3
  have ob3 := ob4.trans hb3
  have HD : Hid _ := hd3
  simp only [World.size_setCell] at hf3 hg3
  have HG : Hid _ := hg3
  clear hb3 hi1' hi2' B1' B2' ob4 hd3 hg3
  have c2 := B2.cell
  have f2 := B2.free
  have c1 := B1.cell
  have f1 := B1.free
  go_wp2_with fail
  refine bodyPost_ret (v := .agg #[.string m.name, .int .i64 m.line, .int .i64 m.params, .bool m.rest, .slice va m.nv m.nv, .slice ua m.nu m.nu, .slice na m.nn m.nn]) (by simp [results, Tryz.results37, go_sem, c1]) rfl
    ⟨⟨m.name, m.line, m.params, m.rest, m.nv, m.vr, m.nu, m.ul, m.ui, m.nn, nm', va, m.nv, ua, m.nu, na, m.nn⟩, rfl, ?_, ?_, ?_, by simp only [FM.toFD]; congr 1; funext i; exact HD.out i, Nat.le_refl _, HCP.out⟩
  · iterate 8 (refine below_set ?_ (by omega) _)
    exact ob3
  · refine FM.At.kept (p := fun k => w.heap.size + 1 + 1 < k) (B := w.heap.size + 1 + 1 + 1) ?_ (fun k hk => by show _ < _; omega) ⟨hf1.mono (by omega), hf2.mono (by omega), hf3.mono (by omega), fun i hi => (HG.out i hi).mono (by omega)⟩ ⟨i1, i2, hi3⟩
    iterate 8 (refine Kept.set ?_ (by show ¬ _ < _; omega) _)
    exact Kept.refl _ _
  · exact ⟨hf1.mono (by omega), hf2.mono (by omega), hf3.mono (by omega), fun i hi => (HG.out i hi).mono (by omega)⟩

theorem FnsRel.stepC {wr w1 : World} {g n k : Nat} {fm fm' : Nat → FM} {cur : Array Value} (R : FnsRel wr g n k fm fm' cur) (hkn : k < n) (hb : Onw wr w1) (m : FM)
    (hm : m.At w1) (hf : m.Frm wr.heap.size) (hd : m.toFD = (fm k).toFD) :
    ∃ cur', FnsRel (w1.setCells g (k * 7) [.string m.name, .int .i64 m.line, .int .i64 m.params, .bool m.rest, .slice m.va m.nv m.vc, .slice m.ua m.nu m.uc, .slice m.na m.nn m.nc]) g n (k + 1) fm (fun i => if i = k then m else fm' i) cur' := by
  obtain ⟨h1, h2, h3, h4, h5, h6⟩ := R
  have hlt := h1.lt
  refine ⟨_, Blk.setL _ _ _ (k * 7) (h1.onw hb), ?_, ?_, ?_, ?_, ?_⟩
  · rw [size_setL]; exact h2
  · intro i
    by_cases e : i = k
    · subst e; simpa using hd
    · simp [e]; exact h3 i
  · intro i hi j hj
    by_cases e : i = k
    · subst e
      simp only [if_true]
      rw [get_setL_in _ _ _ _ (by simp; omega) (by simpa using hj)]
      simp [FM.val]
    · simp only [e, if_false]
      rw [get_setL_out _ _ _ _ (by simp; omega)]
      exact h4 i (by omega) j hj
  · intro i hi
    by_cases e : i = k
    · subst e
      simp only [if_true]
      exact FM.At.kept (kept_setL _ _ _) (B := wr.heap.size) (fun k hk => by omega) hf hm
    · simp only [e, if_false]
      exact FM.At.kept (kept_setL _ _ _) (B := g + 1) (fun k hk => by omega) (h6 i (by omega)) ((h5 i (by omega)).onw hb)
  · intro i hi
    by_cases e : i = k
    · subst e
      simp only [if_true]
      exact hf.mono (by omega)
    · simp only [e, if_false]
      exact h6 i (by omega)

set_option maxHeartbeats 1000000 in
theorem toFnS_cap (a : Option Addr) (n c : Nat) (fm : Nat → FM) (w : World) (hn : n ≤ 1048576) (hs : ∀ i, i < n → (fm i).Small) (ha : FnsAt w a n fm) :
    Calls Tryz.prog 14 #[.slice a n c] w fun e w' => ∃ a' fm', e = .returned (.slice a' n n) ∧ Onw w w' ∧ FnsAt w' a' n fm' ∧ (∀ i, (fm' i).toFD = (fm i).toFD) ∧ Frm w.heap.size a' ∧ (∀ i, i < n → (fm' i).Frm w.heap.size) ∧ ∀ i, i < n → (fm' i).nn ≤ (fm' i).nc ∧ ∀ j, j < (fm' i).nn → ((fm' i).nm j).nk ≤ ((fm' i).nm j).kc := by
  have hmk := run_make_fns n hn
  go_enter Tryz.func14, Tryz.ntmps14
  go_wp2
  go_loopw [4] (fun i wr => ∃ k : Nat, k ≤ n ∧ i = .int .i64 k ∧ Onw w wr ∧ ∃ fm' cur, FnsRel wr w.heap.size n k fm fm' cur ∧ ∀ i, i < k → (fm' i).nn ≤ (fm' i).nc ∧ ∀ j, j < (fm' i).nn → ((fm' i).nm j).nk ≤ ((fm' i).nm j).kc) (fun i _ => n - (intOf i).toNat)
  case atStart => exact ⟨0, Nat.zero_le _, rfl, Onw.alloc _ _, fm, _, ⟨Blk.new _ _ _, by simp [size_madeCells], fun i => rfl, fun i hi => by omega, fun i hi => by omega, fun i hi => by omega⟩, fun i hi => by omega⟩
  case round =>
    obtain ⟨k, hk, rfl, hb, fm', cur, R, hcp⟩ := hrel
    have HCP : Hid _ := hcp
    clear hcp
    clear hmk
    by_cases hlt : k < n
    · obtain ⟨b, off, rfl, hc⟩ := (ha.onw hb).1 (by omega)
      obtain ⟨c0, c1, c2, c3, c4, c5, c6⟩ := hc k hlt
      have hsk := hs k hlt
      have HS : Hid _ := hs
      clear hc hs
      go_wp2_with fail
      refine (toFn_cap (fm k) _ hsk.1 hsk.2.1 hsk.2.2.1 hsk.2.2.2 ((ha.2 k hlt).onw hb)).mono ?_
      rintro e w1 ⟨m, rfl, hb1, hm, hfr, hd, hcm⟩
      have HCM : Hid _ := hcm
      clear hcm
      have hbl1 := R.blk.onw hb1
      have hf := hbl1.free
      have hz : w.heap.size < w1.heap.size := hbl1.lt
      obtain ⟨cur', R'⟩ := R.stepC hlt hb1 m hm hfr hd
      have hsz := R.size
      obtain ⟨x0, g0⟩ := hbl1.some (j := k * 7) (by omega)
      obtain ⟨x1, g1⟩ := hbl1.some (j := k * 7 + 1) (by omega)
      obtain ⟨x2, g2⟩ := hbl1.some (j := k * 7 + 2) (by omega)
      obtain ⟨x3, g3⟩ := hbl1.some (j := k * 7 + 3) (by omega)
      obtain ⟨x4, g4⟩ := hbl1.some (j := k * 7 + 4) (by omega)
      obtain ⟨x5, g5⟩ := hbl1.some (j := k * 7 + 5) (by omega)
      obtain ⟨x6, g6⟩ := hbl1.some (j := k * 7 + 6) (by omega)
      clear c0 c1 c2 c3 c4 c5 c6 hsz hd
      go_wp2_with fail
      go_roundw
      case rel => exact ⟨k + 1, by omega, by go_num, below_setL (Nat.le_refl _) [_, _, _, _, _, _, _] _ _ (k * 7) (hb.trans hb1), _, cur', R', fun i hi => by
        by_cases e : i = k
        · subst e; simp only [if_true]; exact HCM.out
        · simp only [if_neg e]; exact HCP.out i (by omega)⟩
      case measure => simp [intOf]; omega
    · go_wp2
      go_ret
      have : k = n := by omega
      subst this
      exact ⟨_, fm', rfl, hb, ⟨fun _ => ⟨_, 0, rfl, fun i hi => by rw [Nat.zero_add]; exact (R.cells i hi).cells R.blk⟩, R.lies⟩, R.data, fun x hx => by cases hx; exact Nat.le_refl _, fun i hi => (R.frm i hi).mono (by omega), HCP.out⟩

set_option maxHeartbeats 1000000 in
theorem toUnit_cap (m : UM) (w : World) (hn : m.nf ≤ 1048576) (hs : ∀ i, i < m.nf → (m.fm i).Small) (ha : m.At w) :
    Calls Tryz.prog 6 #[.agg #[.slice m.fa m.nf m.fc]] w fun e w' => ∃ m' : UM, e = .returned (.agg #[.slice m'.fa m'.nf m'.fc]) ∧ Onw w w' ∧ m'.At w' ∧ m'.toUD = m.toUD ∧ m'.nf = m.nf ∧ ∀ f, f < m'.nf → (m'.fm f).nn ≤ (m'.fm f).nc ∧ ∀ n, n < (m'.fm f).nn → ((m'.fm f).nm n).nk ≤ ((m'.fm f).nm n).kc := by
  have HS : Hid _ := hs
  clear hs
  go_enter Tryz.func6, Tryz.ntmps6
  go_wp2_with fail
  refine (toFnS_cap _ _ _ m.fm _ hn HS.out (by exact FnsAt.onw (((Onw.alloc _ _).trans (Onw.alloc _ _)).trans (Onw.alloc _ _)) ha)).mono ?_
  rintro e w1 ⟨fa, fm', rfl, hb1, hi1, hd, hf3, hg3, hcp⟩
  have HCP : Hid _ := hcp
  clear hcp
  have ob : Onw w w1 := Onw.trans (((Onw.alloc _ _).trans (Onw.alloc _ _)).trans (Onw.alloc _ _)) hb1
  have B1 := Blk.onw ((Onw.alloc _ _).trans hb1) (Blk.new _ 31 _)
  have B2 := Blk.onw hb1 (Blk.new _ 31 _)
  have hz : w.heap.size + 1 + 1 < w1.heap.size := by have := hb1.size; simp at this; omega
  simp only [World.size_alloc] at B1 B2 hf3 hg3
  have HD : Hid _ := hd
  have HG : Hid _ := hg3
  clear hb1 hd hg3
  have c2 := B2.cell
  have f2 := B2.free
  have c1 := B1.cell
  have f1 := B1.free
  go_wp2_with fail
  refine bodyPost_ret (v := .agg #[.slice fa m.nf m.nf]) (by simp [results, Tryz.results6, go_sem, c1]) rfl ⟨⟨m.nf, fm', fa, m.nf⟩, rfl, ?_, ?_, by simp only [UM.toUD]; congr 1; funext i; exact HD.out i, rfl, HCP.out⟩
  · exact below_set (below_set ob (by omega) _) (by omega) _
  · refine FnsAt.kept (p := fun k => w.heap.size + 1 + 1 < k) (B := w.heap.size + 1 + 1 + 1) ?_ (fun k hk => by show _ < _; omega) (hf3.mono (by omega)) (fun i hi => (HG.out i hi).mono (by omega)) hi1
    exact ((Kept.refl _ _).set (by show ¬ _ < _; omega) _).set (by show ¬ _ < _; omega) _
end Go.Proofs.YtnokgdgikdgaeaaGreat

namespace Go.Proofs.YtnokgdgikdgaeaaGreat
open Go.RowKit
attribute [local go_sem] run_store_float

theorem fd_fm {m m' : UM} (h : m'.toUD = m.toUD) : m'.nf = m.nf ∧ ∀ i, (m'.fm i).toFD = (m.fm i).toFD := by
  have h1 := congrArg UD.nf h
  have h2 := congrArg UD.fn h
  exact ⟨h1, fun i => congrFun h2 i⟩
theorem small_fd {m m' : FM} (h : m'.toFD = m.toFD) (hs : m.Small) : m'.Small := by
  have e1 := congrArg FD.nv h
  have e2 := congrArg FD.nu h
  have e3 := congrArg FD.nn h
  have e4 := congrArg FD.nd h
  obtain ⟨a, b, c, d⟩ := hs
  have x1 : m'.nv = m.nv := e1
  have x2 : m'.nu = m.nu := e2
  have x3 : m'.nn = m.nn := e3
  refine ⟨by omega, by omega, by omega, fun i hi => ?_⟩
  have h4 : (m'.nm i).toND = (m.nm i).toND := congrFun e4 i
  have := d i (by omega)
  rw [show (m'.nm i).nr = (m.nm i).nr from congrArg ND.nr h4, show (m'.nm i).nk = (m.nm i).nk from congrArg ND.nk h4]
  exact this
theorem sum_fd {m m' : UM} (h : m'.toUD = m.toUD) : sumTo (fun i => (m'.fm i).nn) m'.nf = sumTo (fun i => (m.fm i).nn) m.nf := by
  obtain ⟨h1, h2⟩ := fd_fm h
  rw [h1]
  have : (fun i => (m'.fm i).nn) = (fun i => (m.fm i).nn) := funext fun i => congrArg FD.nn (h2 i)
  rw [this]

/-- The program's CheckUnit, over a copy. -/
theorem implSpec_any (u : UM) (w : World) (hn : u.nf ≤ 1048576) (hs : ∀ f, f < u.nf → (u.fm f).Small) (hsum : sumTo (fun i => (u.fm i).nn) u.nf ≤ 1048576) (hcap : ∀ f, f < u.nf → (u.fm f).nn ≤ (u.fm f).nc ∧ ∀ n, n < (u.fm f).nn → ((u.fm f).nm n).nk ≤ ((u.fm f).nm n).kc) (ha : u.At w) :
    Calls Tryz.prog 7 #[.agg #[.slice u.fa u.nf u.fc]] w fun e w' => e = .returned (fval (specB u.toUD)) ∧ Onw w w' := by
  rw [← impl_spec]
  refine implCheck_any u _ _ w hn hs hsum hcap ha (fun h0 h1 f hf => ok3_of (u := u.toUD) h0 h1 hf) ?_ ?_
  · exact facts_all (u := u.toUD) (fun f hf n hn' => ((hs f hf).2.2.2 n hn').1)
  · intro h f hf n hn' hk
    have := h f hf
    unfold rules2 at this
    rw [if_pos rfl] at this
    exact six_in (d := (u.fm f).toFD) this hn' hk
end Go.Proofs.YtnokgdgikdgaeaaGreat

namespace Go.Proofs.YtnokgdgikdgaeaaGreat
open Go.RowKit
attribute [local go_sem] run_store_float

theorem sum_le {f g : Nat → Nat} : ∀ n, (∀ i, i < n → f i ≤ g i) → sumTo f n ≤ sumTo g n
  | 0, _ => Nat.le_refl _
  | n + 1, h => by
    have := sum_le n fun i hi => h i (by omega)
    have := h n (by omega)
    simp only [sumTo]; omega
theorem small_of {m : FM} (h : m.sz ≤ 1048576) : m.Small := by
  unfold FM.sz at h
  refine ⟨by omega, by omega, by omega, fun i hi => ?_⟩
  have h1 : (m.nm i).sz ≤ sumTo (fun i => (m.nm i).sz) m.nn := sum_ge (fun i => (m.nm i).sz) m.nn i hi
  have h2 : (m.nm i).sz = (m.nm i).str.size + (m.nm i).nr + (m.nm i).nk := rfl
  omega
theorem sz_small {u : UM} (h : u.sz ≤ 1048576) : u.nf ≤ 1048576 ∧ (∀ f, f < u.nf → (u.fm f).Small) ∧ sumTo (fun i => (u.fm i).nn) u.nf ≤ 1048576 := by
  unfold UM.sz at h
  refine ⟨by omega, fun f hf => small_of ?_, ?_⟩
  · have : (u.fm f).sz ≤ sumTo (fun i => (u.fm i).sz) u.nf := sum_ge (fun i => (u.fm i).sz) u.nf f hf
    omega
  · have : sumTo (fun i => (u.fm i).nn) u.nf ≤ sumTo (fun i => (u.fm i).sz) u.nf := sum_le u.nf fun i _ => by show _ ≤ (u.fm i).sz; unfold FM.sz; omega
    omega
theorem fval_ints (o : Option Flt) : ∃ i j k : Int, fval o = .agg #[.int .i64 i, .int .i64 j, .int .i64 k] := by
  cases o with
  | none => exact ⟨0, 0, 0, rfl⟩
  | some x => exact ⟨x.code, x.fn, x.node, rfl⟩

set_option maxRecDepth 100000 in
set_option maxHeartbeats 4000000 in
theorem law_any (u : UM) (w : World) (hn : u.nf ≤ 140737488351232) (hs : ∀ i, i < u.nf → (u.fm i).Reach) (ha : u.At w) :
    Calls Tryz.prog 3 #[.agg #[.slice u.fa u.nf u.fc]] w fun e w' => e = .returned (.bool true) ∧ Onw w w' := by
  have HS : Hid _ := hs
  have HA : Hid _ := ha
  clear hs ha
  have N0 := Blk.new w 24 #[.slice u.fa u.nf u.fc]
  have O0 := Onw.alloc w (Obj.cells #[.slice u.fa u.nf u.fc] 24)
  go_enter Tryz.func3, Tryz.ntmps3
  go_wp2_with fail
  refine (szUnit_any u 1048576 _ (by omega) (by omega) hn HS.out (UM.At.onw O0 HA.out)).mono ?_
  rintro e w1 ⟨r, rfl, O1, (rfl | ⟨p1, q1⟩)⟩
  · go_wp2_with fail
    go_ret
    exact ⟨rfl, O0.trans O1⟩
  · have B1 := N0.onw O1
    have o1 := O0.trans O1
    have hsz : u.sz ≤ 1048576 := by omega
    obtain ⟨s1, s2, s3⟩ := sz_small hsz
    have S2 : Hid _ := s2
    have S3 : Hid _ := s3
    have p1' : ¬ r < 0 := by omega
    clear q1 hsz s2 s3 N0 O0 O1
    have b1 := B1.cell
    obtain ⟨i, j, k, hfv⟩ := fval_ints (specB u.toUD)
    have HFV : Hid _ := hfv
    clear hfv
    go_wp2_with fail
    refine (toUnit_cap u _ s1 S2.out (UM.At.onw o1 HA.out)).mono ?_
    rintro e w2 ⟨u2, rfl, O2, a2, e2, n2, c2⟩
    have o2 := o1.trans O2
    have B2 := B1.onw O2
    have C2 : Hid _ := c2
    have E2 : Hid _ := e2
    have N2 : Hid _ := n2
    clear c2 e2 n2 B1 b1 o1 O2
    go_wp2_with fail
    refine (specCheck_any u2 _ (by have := N2.out; omega) (fun f hf => small_fd ((fd_fm E2.out).2 f) (S2.out f (by have := N2.out; omega))) (by rw [sum_fd E2.out]; exact S3.out) a2).mono ?_
    rintro e w3 ⟨rfl, O3⟩
    rw [E2.out, HFV.out]
    have o3 := o2.trans O3
    have B3 := B2.onw O3
    clear B2 o2 O3 a2 C2 E2 N2
    have b3 := B3.cell
    have z3 := B3.lt
    go_wp2_with fail
    have O4 := Onw.alloc w3 (Obj.cells #[.int .i64 i, .int .i64 j, .int .i64 k] 27)
    have BF := Blk.new w3 27 #[.int .i64 i, .int .i64 j, .int .i64 k]
    have o4 := o3.trans O4
    have B4 := B3.onw O4
    clear b3 B3 o3 O4
    generalize w3.alloc (Obj.cells #[.int .i64 i, .int .i64 j, .int .i64 k] 27) = w4 at *
    refine (toUnit_cap u _ s1 S2.out (UM.At.onw o4 HA.out)).mono ?_
    rintro e w5 ⟨u5, rfl, O5, a5, e5, n5, c5⟩
    have o5 := o4.trans O5
    have B5 := B4.onw O5
    have BF5 := BF.onw O5
    have C5 : Hid _ := c5
    have E5 : Hid _ := e5
    have N5 : Hid _ := n5
    clear c5 e5 n5 B4 o4 O5 BF
    go_wp2_with fail
    have O6 := Onw.alloc w5 (Obj.cells #[.slice u5.fa u5.nf u5.fc] 31)
    have BX := Blk.new w5 31 #[.slice u5.fa u5.nf u5.fc]
    have o6 := o5.trans O6
    have B6 := B5.onw O6
    have BF6 := BF5.onw O6
    have a6 := UM.At.onw O6 a5
    clear B5 BF5 o5 O6 a5
    generalize w5.alloc (Obj.cells #[.slice u5.fa u5.nf u5.fc] 31) = w6 at *
    refine (implSpec_any u5 _ (by have := N5.out; omega) (fun f hf => small_fd ((fd_fm E5.out).2 f) (S2.out f (by have := N5.out; omega))) (by rw [sum_fd E5.out]; exact S3.out) C5.out a6).mono ?_
    rintro e w7 ⟨rfl, O7⟩
    rw [E5.out, HFV.out]
    have o7 := o6.trans O7
    have B7 := B6.onw O7
    have BF7 := BF6.onw O7
    have BX7 := BX.onw O7
    have a7 := UM.At.onw O7 a6
    clear B6 BF6 BX o6 O7 a6
    have bf := BF7.cell
    have zf := BF7.lt
    go_wp2_with fail
    have O8 := Onw.alloc w7 (Obj.cells #[.int .i64 i, .int .i64 j, .int .i64 k] 27)
    have o8 := o7.trans O8
    have B8 := B7.onw O8
    have BX8 := BX7.onw O8
    have a8 := UM.At.onw O8 a7
    clear bf BF7 B7 BX7 o7 O8 a7
    generalize w7.alloc (Obj.cells #[.int .i64 i, .int .i64 j, .int .i64 k] 27) = w8 at *
    refine (eqFault_same i j k _).mono ?_
    rintro e w9 ⟨rfl, O9⟩
    have o9 := o8.trans O9
    have B9 := B8.onw O9
    have BX9 := BX8.onw O9
    have a9 := UM.At.onw O9 a8
    clear B8 BX8 o8 O9 a8
    have x0 : w9.cell? ⟨w5.heap.size, 0, none⟩ = some (.slice u5.fa u5.nf u5.fc) := by rw [BX9.cell]; rfl
    have y0 : w9.cell? ⟨w.heap.size, 0, none⟩ = some (.slice u.fa u.nf u.fc) := by rw [B9.cell]; rfl
    go_wp2_with fail
    go_region_held3 (fun w' => w'.cell? ⟨w5.heap.size, 0, none⟩ = some (.slice u5.fa u5.nf u5.fc) ∧ w'.cell? ⟨w.heap.size, 0, none⟩ = some (.slice u.fa u.nf u.fc)) (go_keep)
      (first
        | (go_at_call 6; refine (toUnit_cap u _ s1 S2.out (UM.At.onw (o9.trans (Below.drew (Onw.refl _))) HA.out)).mono ?_; rintro e w10 ⟨u10, rfl, O10, a10, e10, n10, c10⟩; have E10 : Hid _ := e10; have o10 := (show Onw w9 w10 from Onw.trans (Below.drew (Onw.refl _)) O10); have q1 := cell_onw o10 x0; have q2 := cell_onw o10 y0; clear e10 n10 c10)
        | (go_at_call 9; refine (eqUnit_same u5 u10 _ (by have := N5.out; omega) (fun f hf => small_fd ((fd_fm E5.out).2 f) (S2.out f (by have := N5.out; omega))) (E10.out.trans E5.out.symm) (UM.At.onw o10 a9) a10).mono ?_; rintro e w11 ⟨rfl, O11⟩; have r1 := cell_onw O11 q1; have r2 := cell_onw O11 q2))
    go_wp2_with fail
    go_ret
    exact ⟨rfl, (o9.trans o10).trans O11⟩
end Go.Proofs.YtnokgdgikdgaeaaGreat

namespace Go.Proofs.YtnokgdgikdgaeaaGreat
open Go.RowKit Go.Deep Go.ChangeShapes Go.WideShapes

def nd0 : ND := ⟨0, 0, 0, 0, 0, ByteArray.empty, 0, fun _ => 0, 0, fun _ => 0⟩
def nm0 : NM := ⟨nd0, none, 0, none, 0⟩
def fm0 : FM := ⟨ByteArray.empty, 0, 0, false, 0, fun _ => ByteArray.empty, 0, fun _ => false, fun _ => 0, 0, fun _ => nm0, none, 0, none, 0, none, 0⟩

section
variable {H : Type} {enc : TypeId × Value → H} {w : World} {spare : Nat → Bool} {held : Bool}

/-- Each string and slice in it is within the form's reach. -/
def Fit (t : TypeId) (d : DataW H) : Prop := ∀ n, n ∈ d.weights Tryz.prog t → n ≤ 140737488351232
theorem fit_all_mem {e : TypeId} : ∀ {l : List (DataW H)}, (∀ n, n ∈ DataW.weightsAll Tryz.prog e l → n ≤ 140737488351232) → ∀ d, d ∈ l → Fit e d
  | [], _, d, hd => by cases hd
  | x :: l, h, d, hd => by
    simp only [DataW.weightsAll, List.mem_append] at h
    rcases List.mem_cons.1 hd with rfl | hd
    · exact fun n hn => h n (Or.inl hn)
    · exact fit_all_mem (fun n hn => h n (Or.inr hn)) d hd
theorem fit_slice {t e : TypeId} (hu : Tryz.prog.underlying t = some (.slice e)) {elems rest : List (DataW H)} (h : Fit t (.slice elems rest)) : (elems.length + rest.length) * Tryz.prog.bytesOf e ≤ 140737488351232 ∧ ∀ d, d ∈ elems → Fit e d := by
  unfold Fit at h
  simp only [DataW.weights, hu, List.mem_cons, List.mem_append] at h
  exact ⟨h _ (Or.inl rfl), fit_all_mem fun n hn => h n (Or.inr (Or.inl hn))⟩
theorem fit_agg {t : TypeId} {fs : Array Field} (hu : Tryz.prog.underlying t = some (.struct fs)) {parts : List (DataW H)} (h : Fit t (.agg parts)) {i : Nat} {f : Field} (hi : fs[i]? = some f) {d : DataW H} (hd : parts[i]? = some d) : Fit f.type d := by
  unfold Fit at h
  simp only [DataW.weights, hu] at h
  exact fun n hn => h n (DataW.weights_mem_each (j := i) (t := f.type) (d := d) (by simp [hi]) hd n hn)

/-- A struct of one-cell fields, field by field. -/
theorem fields {t : TypeId} {fs : Array Field} {fuel : Nat} {cs : List Value} {x : DataW H × List MemPlace} (hs : Tryz.prog.underlying t = some (.struct fs)) (hone : oneCellFields Tryz.prog fs = true) (hC : Tryz.prog.cellsOf t = fs.size) (h : DataW.trod enc Tryz.prog w 0 spare held fuel t cs = some x) (hf : Fit t x.1) :
    cs.length = fs.size ∧ ∃ n, ∀ (i : Nat) (f : Field), fs[i]? = some f → ∃ v y, cs[i]? = some v ∧ DataW.trod enc Tryz.prog w 0 spare held n f.type [v] = some y ∧ Fit f.type y.1 := by
  obtain ⟨xs, n, _, rfl, hl, hxl, hg⟩ := DataW.trod_struct hs h
  rw [hC] at hl
  refine ⟨hl, n, fun i f hi => ?_⟩
  have hlt : i < fs.size := (Array.getElem?_eq_some_iff.1 hi).1
  obtain ⟨ho, hc1⟩ := hone_of hone i f hi
  have g := hg i f hi
  rw [ho, hc1, take1_drop cs i undef (by omega)] at g
  have e1 : cs[i]? = some (cs.getD i undef) := by simp [List.getD, List.getElem?_eq_getElem (show i < cs.length by omega)]
  have e2 : xs[i]? = some (xs.getD i (.nil, [])) := by simp [List.getD, List.getElem?_eq_getElem (show i < xs.length by omega)]
  refine ⟨_, xs.getD i (.nil, []), e1, by rw [g, e2], ?_⟩
  refine fit_agg hs hf hi ?_
  rw [List.getElem?_map, e2]; rfl

/-- A slice, element by element. -/
theorem elems {t e : TypeId} {fuel : Nat} {v : Value} {x : DataW H × List MemPlace} (ht : Tryz.prog.underlying t = some (.slice e)) (hb : 1 ≤ Tryz.prog.bytesOf e) (hp : 0 < Tryz.prog.cellsOf e) (h : DataW.trod enc Tryz.prog w 0 spare held fuel t [v] = some x) (hf : Fit t x.1) :
    ∃ (a : Option Addr) (l c n : Nat), v = .slice a l c ∧ l ≤ 140737488351232 ∧ (0 < l → ∃ b off, a = some ⟨b, off, none⟩ ∧ ∀ i, i < l → ∃ cs y, cs.length = Tryz.prog.cellsOf e ∧ (∀ j, j < Tryz.prog.cellsOf e → w.cell? ⟨b, off + i * Tryz.prog.cellsOf e + j, none⟩ = cs[j]?) ∧ DataW.trod enc Tryz.prog w 0 spare held n e cs = some y ∧ Fit e y.1) := by
  rcases open_slice ht h with ⟨h0, _⟩ | ⟨a, len, cap, m, n, D, Pl, hcs, _, hl, hm, hmm, rfl, hx⟩
  · simp only [List.cons.injEq, and_true] at h0
    exact ⟨none, 0, 0, 0, h0, by omega, fun h => absurd h (Nat.lt_irrefl 0)⟩
  · simp only [List.cons.injEq, and_true] at hcs
    have hlm : len ≤ m := by rw [hmm]; split <;> omega
    obtain ⟨f1, f2⟩ := fit_slice ht hf
    simp only [List.length_map, List.length_range] at f1
    refine ⟨some a, len, cap, n, hcs, ?_, fun h0 => ?_⟩
    · have h2 : (len + (m - len)) * 1 ≤ (len + (m - len)) * Tryz.prog.bytesOf e := Nat.mul_le_mul_left _ hb
      omega
    · obtain ⟨b, off, spot⟩ := a
      have hspot : spot = none := by
        obtain ⟨cs0, g1, _⟩ := hx 0 (by omega)
        obtain ⟨_, hlen, hcell⟩ := World.cells?_some g1
        have := hcell 0 hp
        rw [List.getElem?_eq_getElem (by omega)] at this
        simpa [Addr.add] using World.cell?_spot this
      subst hspot
      refine ⟨b, off, rfl, fun i hi => ?_⟩
      obtain ⟨cs, g1, g2⟩ := hx i (by omega)
      obtain ⟨_, hlen, hcell⟩ := World.cells?_some g1
      refine ⟨cs, (D i, Pl i), hlen, fun j hj => ?_, g2, f2 _ (List.mem_map.2 ⟨i, List.mem_range.2 hi, rfl⟩)⟩
      have := hcell j hj
      rw [add_plain, add_plain] at this
      exact this

theorem trod_float {t : TypeId} {k : FloatKind} {fuel : Nat} {cs : List Value} {x : DataW H × List MemPlace} (ht : Tryz.prog.underlying t = some (.float k)) (h : DataW.trod enc Tryz.prog w 0 spare held fuel t cs = some x) : ∃ b, cs = [.float k b] := by
  cases fuel with
  | zero => simp [DataW.trod] at h
  | succ n =>
    unfold DataW.trod at h
    rw [ht] at h
    split at h <;> simp_all

theorem is_int {n : Nat} {v : Value} {y : DataW H × List MemPlace} {t : TypeId} (ht : Tryz.prog.underlying t = some (.int .i64)) (h : DataW.trod enc Tryz.prog w 0 spare held n t [v] = some y) : ∃ x, v = .int .i64 x := by
  obtain ⟨x, h1, _⟩ := DataW.trod_int ht h
  exact ⟨x, by simpa using h1⟩
theorem is_string {n : Nat} {v : Value} {y : DataW H × List MemPlace} (h : DataW.trod enc Tryz.prog w 0 spare held n 9 [v] = some y) (hf : Fit 9 y.1) : ∃ s : ByteArray, v = .string s ∧ s.size ≤ 140737488351232 := by
  obtain ⟨s, h1, h2, _⟩ := DataW.trod_string Tryz.underlying9 h
  refine ⟨s, by simpa using h1, ?_⟩
  rw [h2] at hf
  have := hf s.data.toList.length (by simp [DataW.weights])
  simpa using this
theorem is_bool {n : Nat} {v : Value} {y : DataW H × List MemPlace} (h : DataW.trod enc Tryz.prog w 0 spare held n 4 [v] = some y) : ∃ b, v = .bool b := by
  obtain ⟨b, h1, _⟩ := DataW.trod_bool Tryz.underlying4 h
  exact ⟨b, by simpa using h1⟩
end
end Go.Proofs.YtnokgdgikdgaeaaGreat

namespace Go.Proofs.YtnokgdgikdgaeaaGreat
open Go.RowKit Go.Deep Go.ChangeShapes Go.WideShapes

theorem cells_int : Tryz.prog.cellsOf 3 = 1 := by kernel_rfl
theorem cells_str : Tryz.prog.cellsOf 9 = 1 := by kernel_rfl
theorem cells_up : Tryz.prog.cellsOf 142 = 2 := by kernel_rfl
theorem cells_node : Tryz.prog.cellsOf 135 = 8 := by kernel_rfl
theorem cells_fn : Tryz.prog.cellsOf 57 = 7 := by kernel_rfl
theorem cells_unit : Tryz.prog.cellsOf 24 = 1 := by kernel_rfl
theorem bytes_int : Tryz.prog.bytesOf 3 = 8 := by kernel_rfl
theorem bytes_str : Tryz.prog.bytesOf 9 = 16 := by kernel_rfl
theorem bytes_up : Tryz.prog.bytesOf 142 = 16 := by kernel_rfl
theorem bytes_node : Tryz.prog.bytesOf 135 = 104 := by kernel_rfl
theorem bytes_fn : Tryz.prog.bytesOf 57 = 112 := by kernel_rfl

section
variable {H : Type} {enc : TypeId × Value → H} {w : World} {spare : Nat → Bool} {held : Bool}

theorem open_intsF {n : Nat} {v : Value} {y : DataW H × List MemPlace} (h : DataW.trod enc Tryz.prog w 0 spare held n 65 [v] = some y) (hf : Fit 65 y.1) :
    ∃ (a : Option Addr) (l c : Nat) (f : Nat → Int), v = .slice a l c ∧ l ≤ 140737488351232 ∧ IntsAt w a l f := by
  obtain ⟨a, l, c, m, rfl, hl, hx⟩ := elems Tryz.underlying65 (by rw [bytes_int]; omega) (by rw [cells_int]; omega) h hf
  by_cases h0 : 0 < l
  · obtain ⟨b, off, rfl, hc⟩ := hx h0
    rw [cells_int] at hc
    obtain ⟨f, hf2⟩ := choose_lt (α := Int) (p := fun i x => w.cell? ⟨b, off + i, none⟩ = some (.int .i64 x)) (fun i hi => by
      obtain ⟨cs, y', hlen, hcell, ht, _⟩ := hc i hi
      match cs, hlen with
      | [v], _ =>
        obtain ⟨x, rfl⟩ := is_int Tryz.underlying3 ht
        have := hcell 0 (by omega)
        simp only [Nat.mul_one, Nat.add_zero] at this
        exact ⟨x, this⟩)
    exact ⟨_, l, c, f, rfl, hl, fun _ => ⟨b, off, rfl, hf2⟩⟩
  · exact ⟨a, l, c, fun _ => 0, rfl, hl, fun h => absurd h h0⟩
theorem open_strsF {n : Nat} {v : Value} {y : DataW H × List MemPlace} (h : DataW.trod enc Tryz.prog w 0 spare held n 53 [v] = some y) (hf : Fit 53 y.1) :
    ∃ (a : Option Addr) (l c : Nat) (f : Nat → ByteArray), v = .slice a l c ∧ l ≤ 140737488351232 ∧ StrsAt w a l f ∧ ∀ i, i < l → (f i).size ≤ 140737488351232 := by
  obtain ⟨a, l, c, m, rfl, hl, hx⟩ := elems Tryz.underlying53 (by rw [bytes_str]; omega) (by rw [cells_str]; omega) h hf
  by_cases h0 : 0 < l
  · obtain ⟨b, off, rfl, hc⟩ := hx h0
    rw [cells_str] at hc
    obtain ⟨f, hf2⟩ := choose_lt (α := ByteArray) (p := fun i x => w.cell? ⟨b, off + i, none⟩ = some (.string x) ∧ x.size ≤ 140737488351232) (fun i hi => by
      obtain ⟨cs, y', hlen, hcell, ht, hft⟩ := hc i hi
      match cs, hlen with
      | [v], _ =>
        obtain ⟨x, rfl, hs⟩ := is_string ht hft
        have := hcell 0 (by omega)
        simp only [Nat.mul_one, Nat.add_zero] at this
        exact ⟨x, this, hs⟩)
    exact ⟨_, l, c, f, rfl, hl, fun _ => ⟨b, off, rfl, fun i hi => (hf2 i hi).1⟩, fun i hi => (hf2 i hi).2⟩
  · exact ⟨a, l, c, fun _ => ByteArray.empty, rfl, hl, fun h => absurd h h0, fun i hi => by omega⟩
theorem open_upsF {n : Nat} {v : Value} {y : DataW H × List MemPlace} (h : DataW.trod enc Tryz.prog w 0 spare held n 54 [v] = some y) (hf : Fit 54 y.1) :
    ∃ (a : Option Addr) (l c : Nat) (g : Nat → Bool) (f : Nat → Int), v = .slice a l c ∧ l ≤ 140737488351232 ∧ UpsAt w a l g f := by
  obtain ⟨a, l, c, m, rfl, hl, hx⟩ := elems Tryz.underlying54 (by rw [bytes_up]; omega) (by rw [cells_up]; omega) h hf
  by_cases h0 : 0 < l
  · obtain ⟨b, off, rfl, hc⟩ := hx h0
    rw [cells_up] at hc
    obtain ⟨f, hf2⟩ := choose_lt (α := Bool × Int) (p := fun i x => w.cell? ⟨b, off + i * 2, none⟩ = some (.bool x.1) ∧ w.cell? ⟨b, off + i * 2 + 1, none⟩ = some (.int .i64 x.2)) (fun i hi => by
      obtain ⟨cs, y', hlen, hcell, ht, hft⟩ := hc i hi
      obtain ⟨_, n', hg⟩ := fields Tryz.underlying142 (by kernel_rfl) (by kernel_rfl) ht hft
      obtain ⟨v0, y0, e0, t0, _⟩ := hg 0 _ rfl
      obtain ⟨v1, y1, e1, t1, _⟩ := hg 1 _ rfl
      obtain ⟨b0, rfl⟩ := is_bool t0
      obtain ⟨x1, rfl⟩ := is_int Tryz.underlying3 t1
      exact ⟨(b0, x1), (hcell 0 (by omega)).trans e0, (hcell 1 (by omega)).trans e1⟩)
    exact ⟨_, l, c, fun i => (f i).1, fun i => (f i).2, rfl, hl, fun _ => ⟨b, off, rfl, hf2⟩⟩
  · exact ⟨a, l, c, fun _ => false, fun _ => 0, rfl, hl, fun h => absurd h h0⟩

theorem open_node {n : Nat} {cs : List Value} {y : DataW H × List MemPlace} (h : DataW.trod enc Tryz.prog w 0 spare held n 135 cs = some y) (hf : Fit 135 y.1) :
    ∃ m : NM, m.At w ∧ m.Reach ∧ ∀ j, j < 8 → cs[j]? = m.val[j]? := by
  obtain ⟨_, n', hg⟩ := fields Tryz.underlying135 (by kernel_rfl) (by kernel_rfl) h hf
  obtain ⟨v0, y0, e0, t0, _⟩ := hg 0 _ rfl
  obtain ⟨v1, y1, e1, t1, _⟩ := hg 1 _ rfl
  obtain ⟨v2, y2, e2, t2, _⟩ := hg 2 _ rfl
  obtain ⟨v3, y3, e3, t3, _⟩ := hg 3 _ rfl
  obtain ⟨v4, y4, e4, t4, _⟩ := hg 4 _ rfl
  obtain ⟨v5, y5, e5, t5, f5⟩ := hg 5 _ rfl
  obtain ⟨v6, y6, e6, t6, f6⟩ := hg 6 _ rfl
  obtain ⟨v7, y7, e7, t7, f7⟩ := hg 7 _ rfl
  obtain ⟨x0, rfl⟩ := is_int Tryz.underlying3 t0
  obtain ⟨x1, rfl⟩ := is_int Tryz.underlying3 t1
  obtain ⟨x2, rfl⟩ := is_int Tryz.underlying3 t2
  obtain ⟨x3, rfl⟩ := is_int Tryz.underlying2 t3
  obtain ⟨x4, h4⟩ := trod_float Tryz.underlying69 t4
  simp only [List.cons.injEq, and_true] at h4
  subst h4
  obtain ⟨s5, rfl, hs5⟩ := is_string t5 f5
  obtain ⟨a6, l6, c6, g6, rfl, hl6, hi6⟩ := open_intsF t6 f6
  obtain ⟨a7, l7, c7, g7, rfl, hl7, hi7⟩ := open_intsF t7 f7
  refine ⟨⟨⟨x0, x1, x2, x3, x4, s5, l6, g6, l7, g7⟩, a6, c6, a7, c7⟩, ⟨hi6, hi7⟩, ⟨hs5, hl6, hl7⟩, fun j hj => ?_⟩
  have cs' : j = 0 ∨ j = 1 ∨ j = 2 ∨ j = 3 ∨ j = 4 ∨ j = 5 ∨ j = 6 ∨ j = 7 := by omega
  rcases cs' with rfl | rfl | rfl | rfl | rfl | rfl | rfl | rfl
  · exact e0
  · exact e1
  · exact e2
  · exact e3
  · exact e4
  · exact e5
  · exact e6
  · exact e7
theorem open_nodes {n : Nat} {v : Value} {y : DataW H × List MemPlace} (h : DataW.trod enc Tryz.prog w 0 spare held n 55 [v] = some y) (hf : Fit 55 y.1) :
    ∃ (a : Option Addr) (l c : Nat) (nm : Nat → NM), v = .slice a l c ∧ l ≤ 140737488351232 ∧ NodesAt w a l nm ∧ ∀ i, i < l → (nm i).Reach := by
  obtain ⟨a, l, c, m, rfl, hl, hx⟩ := elems Tryz.underlying55 (by rw [bytes_node]; omega) (by rw [cells_node]; omega) h hf
  by_cases h0 : 0 < l
  · obtain ⟨b, off, rfl, hc⟩ := hx h0
    rw [cells_node] at hc
    have : Inhabited NM := ⟨nm0⟩
    obtain ⟨nm, hf2⟩ := choose_lt (α := NM) (p := fun i x => NodeCells w b (off + i * 8) x ∧ x.At w ∧ x.Reach) (fun i hi => by
      obtain ⟨cs, y', hlen, hcell, ht, hft⟩ := hc i hi
      obtain ⟨m, h1, h2, h3⟩ := open_node ht hft
      exact ⟨m, ⟨(hcell 0 (by omega)).trans (h3 0 (by omega)), (hcell 1 (by omega)).trans (h3 1 (by omega)), (hcell 2 (by omega)).trans (h3 2 (by omega)), (hcell 3 (by omega)).trans (h3 3 (by omega)), (hcell 4 (by omega)).trans (h3 4 (by omega)), (hcell 5 (by omega)).trans (h3 5 (by omega)), (hcell 6 (by omega)).trans (h3 6 (by omega)), (hcell 7 (by omega)).trans (h3 7 (by omega))⟩, h1, h2⟩)
    exact ⟨_, l, c, nm, rfl, hl, ⟨fun _ => ⟨b, off, rfl, fun i hi => (hf2 i hi).1⟩, fun i hi => (hf2 i hi).2.1⟩, fun i hi => (hf2 i hi).2.2⟩
  · exact ⟨a, l, c, fun _ => nm0, rfl, hl, ⟨fun h => absurd h h0, fun i hi => by omega⟩, fun i hi => by omega⟩
theorem open_fn {n : Nat} {cs : List Value} {y : DataW H × List MemPlace} (h : DataW.trod enc Tryz.prog w 0 spare held n 57 cs = some y) (hf : Fit 57 y.1) :
    ∃ m : FM, m.At w ∧ m.Reach ∧ ∀ j, j < 7 → cs[j]? = m.val[j]? := by
  obtain ⟨_, n', hg⟩ := fields Tryz.underlying57 (by kernel_rfl) (by kernel_rfl) h hf
  obtain ⟨v0, y0, e0, t0, f0⟩ := hg 0 _ rfl
  obtain ⟨v1, y1, e1, t1, _⟩ := hg 1 _ rfl
  obtain ⟨v2, y2, e2, t2, _⟩ := hg 2 _ rfl
  obtain ⟨v3, y3, e3, t3, _⟩ := hg 3 _ rfl
  obtain ⟨v4, y4, e4, t4, f4⟩ := hg 4 _ rfl
  obtain ⟨v5, y5, e5, t5, f5⟩ := hg 5 _ rfl
  obtain ⟨v6, y6, e6, t6, f6⟩ := hg 6 _ rfl
  obtain ⟨s0, rfl, hs0⟩ := is_string t0 f0
  obtain ⟨x1, rfl⟩ := is_int Tryz.underlying3 t1
  obtain ⟨x2, rfl⟩ := is_int Tryz.underlying3 t2
  obtain ⟨b3, rfl⟩ := is_bool t3
  obtain ⟨a4, l4, c4, g4, rfl, hl4, hi4, hr4⟩ := open_strsF t4 f4
  obtain ⟨a5, l5, c5, p5, g5, rfl, hl5, hi5⟩ := open_upsF t5 f5
  obtain ⟨a6, l6, c6, g6, rfl, hl6, hi6, hr6⟩ := open_nodes t6 f6
  refine ⟨⟨s0, x1, x2, b3, l4, g4, l5, p5, g5, l6, g6, a4, c4, a5, c5, a6, c6⟩, ⟨hi4, hi5, hi6⟩, ⟨hs0, hl4, hl5, hl6, hr4, hr6⟩, fun j hj => ?_⟩
  have cs' : j = 0 ∨ j = 1 ∨ j = 2 ∨ j = 3 ∨ j = 4 ∨ j = 5 ∨ j = 6 := by omega
  rcases cs' with rfl | rfl | rfl | rfl | rfl | rfl | rfl
  · exact e0
  · exact e1
  · exact e2
  · exact e3
  · exact e4
  · exact e5
  · exact e6
theorem open_fns {n : Nat} {v : Value} {y : DataW H × List MemPlace} (h : DataW.trod enc Tryz.prog w 0 spare held n 22 [v] = some y) (hf : Fit 22 y.1) :
    ∃ u : UM, v = .slice u.fa u.nf u.fc ∧ u.nf ≤ 140737488351232 ∧ u.At w ∧ ∀ i, i < u.nf → (u.fm i).Reach := by
  obtain ⟨a, l, c, m, rfl, hl, hx⟩ := elems Tryz.underlying22 (by rw [bytes_fn]; omega) (by rw [cells_fn]; omega) h hf
  by_cases h0 : 0 < l
  · obtain ⟨b, off, rfl, hc⟩ := hx h0
    rw [cells_fn] at hc
    have : Inhabited FM := ⟨fm0⟩
    obtain ⟨fm, hf2⟩ := choose_lt (α := FM) (p := fun i x => FnCells w b (off + i * 7) x ∧ x.At w ∧ x.Reach) (fun i hi => by
      obtain ⟨cs, y', hlen, hcell, ht, hft⟩ := hc i hi
      obtain ⟨m, h1, h2, h3⟩ := open_fn ht hft
      exact ⟨m, ⟨(hcell 0 (by omega)).trans (h3 0 (by omega)), (hcell 1 (by omega)).trans (h3 1 (by omega)), (hcell 2 (by omega)).trans (h3 2 (by omega)), (hcell 3 (by omega)).trans (h3 3 (by omega)), (hcell 4 (by omega)).trans (h3 4 (by omega)), (hcell 5 (by omega)).trans (h3 5 (by omega)), (hcell 6 (by omega)).trans (h3 6 (by omega))⟩, h1, h2⟩)
    exact ⟨⟨l, fm, some ⟨b, off, none⟩, c⟩, rfl, hl, ⟨fun _ => ⟨b, off, rfl, fun i hi => (hf2 i hi).1⟩, fun i hi => (hf2 i hi).2.1⟩, fun i hi => (hf2 i hi).2.2⟩
  · exact ⟨⟨l, fun _ => fm0, a, c⟩, rfl, hl, ⟨fun h => absurd h h0, fun i hi => absurd (show 0 < l from Nat.lt_of_le_of_lt (Nat.zero_le _) hi) h0⟩, fun i hi => absurd (show 0 < l from Nat.lt_of_le_of_lt (Nat.zero_le _) hi) h0⟩
end
end Go.Proofs.YtnokgdgikdgaeaaGreat
