import Derived.Test.YtjebijnndfkinaaGreatP33
import Derived.Test.YtjebijnndfkinaaGreatP03
import Derived.Test.YtjebijnndfkinaaGreatP02
import Derived.Test.YtjebijnndfkinaaGreatP23
import Derived.Test.YtjebijnndfkinaaGreatP24
import Derived.Test.YtjebijnndfkinaaGreatP25
namespace Go.Proofs.YtjebijnndfkinaaGreat
open Go.RowKit

set_option maxHeartbeats 1000000 in
theorem specCheck_any (u : UM) (w : World) (hn : u.nf ≤ 1048576) (hs : ∀ i, i < u.nf → (u.fm i).Small) (hsum : sumTo (fun i => (u.fm i).nn) u.nf ≤ 1048576) (ha : u.At w) :
    Calls Tryz.prog 5 #[.agg #[.slice u.fa u.nf u.fc]] w fun e w' => e = .returned (fval (specB u.toUD)) ∧ Onw w w' := by
  have HS : Hid _ := hs
  clear hs
  have HU : Hid _ := ha
  go_enter Tryz.func5, Tryz.ntmps5
  go_wp2_with fail
  have U0 := UBox.new w u.fa u.nf u.fc
  refine (l3first_any u _ hn HS.out hsum (by exact ha.onw U0.onw)).mono ?_
  rintro e w1 ⟨rfl, hb1⟩
  have U1 := U0.go hb1
  have bx := U1.b0.cell
  have bq := U1.b1.cell
  have bf := U1.b1.free
  have z0 := U1.b0.lt
  have z1 := U1.b1.lt
  clear U0
  cases hf : firstB u.toUD with
  | some x =>
    have hc : (x.code != 0) = true := by simpa using first_code hf
    have fin : Hid (specB u.toUD = some x) := by show _ = _; rw [specB, hf]
    simp only [fval]
    clear hf
    go_wp2_with fail
    exact bodyPost_ret (v := .agg #[.int .i64 x.code, .int .i64 x.fn, .int .i64 x.node]) (by simp [results, Tryz.results5, go_sem, bq, z1]) rfl ⟨ret_flt fin.out, Onw.trans (below_set (below_set (below_set U1.onw (by omega) _) (by omega) _) (by omega) _) (Onw.alloc _ _)⟩
  | none =>
    simp only [fval]
    have H6 : Hid _ := fun f hf' => ok6_of_first (u := u.toUD) hf (f := f) hf'
    go_wp2_with fail
    have U2 := U1.go (Onw.alloc w1 (Obj.cells #[.int .i64 0, .int .i64 0, .int .i64 0] 27))
    refine (l3second_any u _ hn HS.out (fun f hf' => (H6.out f hf').ok3) (by exact ha.onw U2.onw)).mono ?_
    rintro e w2 ⟨rfl, hb2⟩
    have U3 := U2.go hb2
    clear bx bq bf z0 z1 U1
    have bx := U3.b0.cell
    have bq := U3.b1.cell
    have bf := U3.b1.free
    have z0 := U3.b0.lt
    have z1 := U3.b1.lt
    have HF : Hid _ := hf
    clear hf
    cases hf2 : secondB u.toUD with
    | some x =>
      have hc : (x.code != 0) = true := by simpa using second_code hf2
      have fin : Hid (specB u.toUD = some x) := by show _ = _; rw [specB, HF.out]; simp only; rw [hf2]
      simp only [fval]
      clear hf2
      go_wp2_with fail
      exact bodyPost_ret (v := .agg #[.int .i64 x.code, .int .i64 x.fn, .int .i64 x.node]) (by simp [results, Tryz.results5, go_sem, bq, z1]) rfl ⟨ret_flt fin.out, Onw.trans (below_set (below_set (below_set U3.onw (by omega) _) (by omega) _) (by omega) _) (Onw.alloc _ _)⟩
    | none =>
      have fin : Hid (specB u.toUD = thirdB u.toUD) := by show _ = _; rw [specB, HF.out]; simp only; rw [hf2]
      simp only [fval]
      clear hf2
      go_wp2_with fail
      have U4 := U3.go (Onw.alloc w2 (Obj.cells #[.int .i64 0, .int .i64 0, .int .i64 0] 27))
      refine (l3third_any u _ hn HS.out (fun f hf' => H6.out f hf') (by exact ha.onw U4.onw)).mono ?_
      rintro e w3 ⟨rfl, hb3⟩
      have U5 := U4.go hb3
      clear bx bq bf z0 z1 U3
      have bq := U5.b1.cell
      have bf := U5.b1.free
      cases hf3 : thirdB u.toUD with
      | some x =>
        simp only [fval]
        have F3 : Hid _ := hf3
        clear hf3
        go_wp2_with fail
        exact bodyPost_ret (v := .agg #[.int .i64 x.code, .int .i64 x.fn, .int .i64 x.node]) (by simp [results, Tryz.results5, go_sem, bq]) rfl ⟨ret_flt (by rw [fin.out, F3.out]), below_set (below_set (below_set U5.onw (by omega) _) (by omega) _) (by omega) _⟩
      | none =>
        simp only [fval]
        have F3 : Hid _ := hf3
        clear hf3
        go_wp2_with fail
        exact bodyPost_ret (v := .agg #[.int .i64 0, .int .i64 0, .int .i64 0]) (by simp [results, Tryz.results5, go_sem, bq]) rfl ⟨ret_none (by rw [fin.out, F3.out]), below_set (below_set (below_set U5.onw (by omega) _) (by omega) _) (by omega) _⟩
end Go.Proofs.YtjebijnndfkinaaGreat

namespace Go.Proofs.YtjebijnndfkinaaGreat
open Go.RowKit
attribute [local go_sem] run_store_float

theorem NodesRel.stepC {wr w1 : World} {g n k : Nat} {nm nm' : Nat → NM} {cur : Array Value} (R : NodesRel wr g n k nm nm' cur) (hkn : k < n) (hb : Onw wr w1) (a' a'' : Option Addr)
    (i1 : IntsAt w1 a' (nm k).nr (nm k).rf) (i2 : IntsAt w1 a'' (nm k).nk (nm k).kd) (f1 : Frm wr.heap.size a') (f2 : Frm wr.heap.size a'') :
    ∃ cur', NodesRel (w1.setCells g (k * 8) [.int .i64 (nm k).kind, .int .i64 (nm k).line, .int .i64 (nm k).op, .int .i64 (nm k).num, .float .f64 (nm k).flt, .string (nm k).str, .slice a' (nm k).nr (nm k).nr, .slice a'' (nm k).nk (nm k).nk]) g n (k + 1) nm (fun i => if i = k then ⟨(nm k).toND, a', (nm k).nr, a'', (nm k).nk⟩ else nm' i) cur' := by
  obtain ⟨h1, h2, h3, h4, h5, h6⟩ := R
  have hlt := h1.lt
  refine ⟨_, Blk.setL _ _ _ (k * 8) (h1.onw hb), ?_, ?_, ?_, ?_, ?_⟩
  · rw [size_setL]; exact h2
  · intro i
    by_cases e : i = k
    · subst e; simp
    · simp [e]; exact h3 i
  · intro i hi j hj
    by_cases e : i = k
    · subst e
      simp only [if_true]
      rw [get_setL_in _ _ _ _ (by simp; omega) (by simpa using hj)]
      simp [NM.val]
    · simp only [e, if_false]
      rw [get_setL_out _ _ _ _ (by simp; omega)]
      exact h4 i (by omega) j hj
  · intro i hi
    by_cases e : i = k
    · subst e
      simp only [if_true]
      exact NM.At.kept (kept_setL _ _ _) (fun x hx => by have := f1 x hx; omega) (fun x hx => by have := f2 x hx; omega) ⟨i1, i2⟩
    · simp only [e, if_false]
      have := h6 i (by omega)
      exact NM.At.kept (kept_setL _ _ _) (fun x hx => by have := this.1 x hx; omega) (fun x hx => by have := this.2 x hx; omega) ((h5 i (by omega)).onw hb)
  · intro i hi
    by_cases e : i = k
    · subst e
      simp only [if_true]
      exact ⟨f1.mono (by omega), f2.mono (by omega)⟩
    · simp only [e, if_false]
      exact h6 i (by omega)

set_option maxHeartbeats 1000000 in
theorem toNodeS_cap (a : Option Addr) (n c : Nat) (nm : Nat → NM) (w : World) (hn : n ≤ 1048576) (hs : ∀ i, i < n → (nm i).nr ≤ 1048576 ∧ (nm i).nk ≤ 1048576) (ha : NodesAt w a n nm) :
    Calls Tryz.prog 56 #[.slice a n c] w fun e w' => ∃ a' nm', e = .returned (.slice a' n n) ∧ Onw w w' ∧ NodesAt w' a' n nm' ∧ (∀ i, (nm' i).toND = (nm i).toND) ∧ Frm w.heap.size a' ∧ (∀ i, i < n → (nm' i).Frm w.heap.size) ∧ ∀ i, i < n → (nm' i).nk ≤ (nm' i).kc := by
  have hmk := run_make_nodes n hn
  go_enter Tryz.func56, Tryz.ntmps56
  go_wp2
  go_loopw [4] (fun i wr => ∃ k : Nat, k ≤ n ∧ i = .int .i64 k ∧ Onw w wr ∧ ∃ nm' cur, NodesRel wr w.heap.size n k nm nm' cur ∧ ∀ i, i < k → (nm' i).nk ≤ (nm' i).kc) (fun i _ => n - (intOf i).toNat)
  case atStart => exact ⟨0, Nat.zero_le _, rfl, Onw.alloc _ _, nm, _, ⟨Blk.new _ _ _, by simp [size_madeCells], fun i => rfl, fun i hi => by omega, fun i hi => by omega, fun i hi => by omega⟩, fun i hi => by omega⟩
  case round =>
    obtain ⟨k, hk, rfl, hb, nm', cur, R, hcp⟩ := hrel
    have HCP : Hid _ := hcp
    clear hcp
    clear hmk
    by_cases hlt : k < n
    · obtain ⟨b, off, rfl, hc⟩ := (ha.onw hb).1 (by omega)
      obtain ⟨c0, c1, c2, c3, c4, c5, c6, c7⟩ := hc k hlt
      have hsk := hs k hlt
      have HS : Hid _ := hs
      clear hc hs
      go_wp2_with fail
      refine (toNode_any (nm k) _ hsk.1 hsk.2 ((ha.2 k hlt).onw hb)).mono ?_
      rintro e w1 ⟨a', a'', rfl, hb1, i1, i2, f1, f2⟩
      have hbl1 := R.blk.onw hb1
      have hf := hbl1.free
      have hz : w.heap.size < w1.heap.size := hbl1.lt
      obtain ⟨cur', R'⟩ := R.stepC hlt hb1 a' a'' i1 i2 f1 f2
      have hsz := R.size
      obtain ⟨x0, g0⟩ := hbl1.some (j := k * 8) (by omega)
      obtain ⟨x1, g1⟩ := hbl1.some (j := k * 8 + 1) (by omega)
      obtain ⟨x2, g2⟩ := hbl1.some (j := k * 8 + 2) (by omega)
      obtain ⟨x3, g3⟩ := hbl1.some (j := k * 8 + 3) (by omega)
      obtain ⟨x4, g4⟩ := hbl1.some (j := k * 8 + 4) (by omega)
      obtain ⟨x5, g5⟩ := hbl1.some (j := k * 8 + 5) (by omega)
      obtain ⟨x6, g6⟩ := hbl1.some (j := k * 8 + 6) (by omega)
      obtain ⟨x7, g7⟩ := hbl1.some (j := k * 8 + 7) (by omega)
      clear c0 c1 c2 c3 c4 c5 c6 c7 hsz
      go_wp2_with fail
      go_roundw
      case rel => exact ⟨k + 1, by omega, by go_num, below_setL (Nat.le_refl _) [_, _, _, _, _, _, _, _] _ _ (k * 8) (hb.trans hb1), _, cur', R', fun i hi => by
        by_cases e : i = k
        · subst e; simp only [if_true]; exact Nat.le_refl _
        · simp only [if_neg e]; exact HCP.out i (by omega)⟩
      case measure => simp [intOf]; omega
    · go_wp2
      go_ret
      have : k = n := by omega
      subst this
      exact ⟨_, nm', rfl, hb, ⟨fun _ => ⟨_, 0, rfl, fun i hi => by rw [Nat.zero_add]; exact (R.cells i hi).cells R.blk⟩, R.lies⟩, R.data, fun x hx => by cases hx; exact Nat.le_refl _, fun i hi => (R.frm i hi).mono (by omega), HCP.out⟩

set_option maxHeartbeats 2000000 in
theorem toFn_cap (m : FM) (w : World) (hv : m.nv ≤ 1048576) (hu : m.nu ≤ 1048576) (hn : m.nn ≤ 1048576) (hs : ∀ i, i < m.nn → (m.nm i).nr ≤ 1048576 ∧ (m.nm i).nk ≤ 1048576) (ha : m.At w) :
    Calls Tryz.prog 37 #[.agg #[.string m.name, .int .i64 m.line, .int .i64 m.params, .bool m.rest, .slice m.va m.nv m.vc, .slice m.ua m.nu m.uc, .slice m.na m.nn m.nc]] w fun e w' => ∃ m' : FM, e = .returned (.agg #[.string m'.name, .int .i64 m'.line, .int .i64 m'.params, .bool m'.rest, .slice m'.va m'.nv m'.vc, .slice m'.ua m'.nu m'.uc, .slice m'.na m'.nn m'.nc]) ∧ Onw w w' ∧ m'.At w' ∧ m'.Frm w.heap.size ∧ m'.toFD = m.toFD ∧ m'.nn ≤ m'.nc ∧ ∀ i, i < m'.nn → (m'.nm i).nk ≤ (m'.nm i).kc := by
  obtain ⟨a1, a2, a3⟩ := ha
  have HS : Hid _ := hs
  clear hs
  go_enter Tryz.func37, Tryz.ntmps37
  go_wp2_with fail
  refine (toStringS_any _ _ _ m.vr _ hv (by exact a1.onw (((Onw.alloc _ _).trans (Onw.alloc _ _)).trans (Onw.alloc _ _)))).mono ?_
  rintro e w1 ⟨va, rfl, hb1, hi1, hf1⟩
  have ob : Onw w w1 := Onw.trans (((Onw.alloc _ _).trans (Onw.alloc _ _)).trans (Onw.alloc _ _)) hb1
  have B0 := (Blk.new w 57 #[.string m.name, .int .i64 m.line, .int .i64 m.params, .bool m.rest, .slice m.va m.nv m.vc, .slice m.ua m.nu m.uc, .slice m.na m.nn m.nc]).onw (((Onw.alloc _ _).trans (Onw.alloc _ _)).trans hb1)
  have B1 := Blk.onw ((Onw.alloc _ _).trans hb1) (Blk.new _ 61 _)
  have B2 := Blk.onw hb1 (Blk.new _ 61 _)
  have hz : w.heap.size + 1 + 1 < w1.heap.size := by have := hb1.size; simp at this; omega
  simp only [World.size_alloc] at B1 B2 hf1
  clear hb1
  have c0 := B0.cell
  have c2 := B2.cell
  have f2 := B2.free
  go_wp2_with fail
  have K1 := kept_setCell w1 (w.heap.size + 1 + 1) 4 (.slice va m.nv m.nv)
  have ob2 : Onw w (w1.setCell ⟨w.heap.size + 1 + 1, 4, none⟩ (.slice va m.nv m.nv)) := below_set ob (by omega) _
  have B0' := Blk.kept K1 (by omega) B0
  have B1' := Blk.kept K1 (by omega) B1
  have B2' := B2.set 4 (.slice va m.nv m.nv)
  have hi1' := hi1.kept K1 (fun x hx => by have := hf1 x hx; omega)
  clear hi1 B0 B1 B2 c0 c2 f2 K1
  refine (toUpS_any _ _ _ m.ul m.ui _ hu (by exact a2.onw ob2)).mono ?_
  rintro e w2 ⟨ua, rfl, hb2, hi2, hf2⟩
  have hz2 : w.heap.size + 1 + 1 < w2.heap.size := by have := hb2.size; simp at this; omega
  have B0 := Blk.onw hb2 B0'
  have B1 := Blk.onw hb2 B1'
  have B2 := Blk.onw hb2 B2'
  have i1 := hi1'.onw hb2
  have ob3 := ob2.trans hb2
  simp only [World.size_setCell] at hf2
  clear hb2 hi1' B0' B1' B2' ob2 ob
  have c0 := B0.cell
  have c2 := B2.cell
  have f2 := B2.free
  go_wp2_with fail
  have K2 := kept_setCell w2 (w.heap.size + 1 + 1) 5 (.slice ua m.nu m.nu)
  have ob4 : Onw w (w2.setCell ⟨w.heap.size + 1 + 1, 5, none⟩ (.slice ua m.nu m.nu)) := below_set ob3 (by omega) _
  have B1' := Blk.kept K2 (by omega) B1
  have B2' := B2.set 5 (.slice ua m.nu m.nu)
  have hi1' := i1.kept K2 (fun x hx => by have := hf1 x hx; omega)
  have hi2' := hi2.kept K2 (fun x hx => by have := hf2 x hx; omega)
  clear i1 hi2 B0 B1 B2 c0 c2 f2 K2 ob3
  refine (toNodeS_cap _ _ _ m.nm _ hn HS.out (by exact a3.onw ob4)).mono ?_
  rintro e w3 ⟨na, nm', rfl, hb3, hi3, hd3, hf3, hg3, hcp⟩
  have HCP : Hid _ := hcp
  clear hcp
  have hz3 : w.heap.size + 1 + 1 < w3.heap.size := by have := hb3.size; simp at this; omega
  have B1 := Blk.onw hb3 B1'
  have B2 := Blk.onw hb3 B2'
  have i1 := hi1'.onw hb3
  have i2 := hi2'.onw hb3
  have ob3 := ob4.trans hb3
  have HD : Hid _ := hd3
  simp only [World.size_setCell] at hf3 hg3
  have HG : Hid _ := hg3
  clear hb3 hi1' hi2' B1' B2' ob4 hd3 hg3
  have c2 := B2.cell
  have f2 := B2.free
  have c1 := B1.cell
  have f1 := B1.free
  go_wp2_with fail
  refine bodyPost_ret (v := .agg #[.string m.name, .int .i64 m.line, .int .i64 m.params, .bool m.rest, .slice va m.nv m.nv, .slice ua m.nu m.nu, .slice na m.nn m.nn]) (by simp [results, Tryz.results37, go_sem, c1]) rfl
    ⟨⟨m.name, m.line, m.params, m.rest, m.nv, m.vr, m.nu, m.ul, m.ui, m.nn, nm', va, m.nv, ua, m.nu, na, m.nn⟩, rfl, ?_, ?_, ?_, by simp only [FM.toFD]; congr 1; funext i; exact HD.out i, Nat.le_refl _, HCP.out⟩
  · iterate 8 (refine below_set ?_ (by omega) _)
    exact ob3
  · refine FM.At.kept (p := fun k => w.heap.size + 1 + 1 < k) (B := w.heap.size + 1 + 1 + 1) ?_ (fun k hk => by show _ < _; omega) ⟨hf1.mono (by omega), hf2.mono (by omega), hf3.mono (by omega), fun i hi => (HG.out i hi).mono (by omega)⟩ ⟨i1, i2, hi3⟩
    iterate 8 (refine Kept.set ?_ (by show ¬ _ < _; omega) _)
    exact Kept.refl _ _
  · exact ⟨hf1.mono (by omega), hf2.mono (by omega), hf3.mono (by omega), fun i hi => (HG.out i hi).mono (by omega)⟩

theorem FnsRel.stepC {wr w1 : World} {g n k : Nat} {fm fm' : Nat → FM} {cur : Array Value} (R : FnsRel wr g n k fm fm' cur) (hkn : k < n) (hb : Onw wr w1) (m : FM)
    (hm : m.At w1) (hf : m.Frm wr.heap.size) (hd : m.toFD = (fm k).toFD) :
    ∃ cur', FnsRel (w1.setCells g (k * 7) [.string m.name, .int .i64 m.line, .int .i64 m.params, .bool m.rest, .slice m.va m.nv m.vc, .slice m.ua m.nu m.uc, .slice m.na m.nn m.nc]) g n (k + 1) fm (fun i => if i = k then m else fm' i) cur' := by
  obtain ⟨h1, h2, h3, h4, h5, h6⟩ := R
  have hlt := h1.lt
  refine ⟨_, Blk.setL _ _ _ (k * 7) (h1.onw hb), ?_, ?_, ?_, ?_, ?_⟩
  · rw [size_setL]; exact h2
  · intro i
    by_cases e : i = k
    · subst e; simpa using hd
    · simp [e]; exact h3 i
  · intro i hi j hj
    by_cases e : i = k
    · subst e
      simp only [if_true]
      rw [get_setL_in _ _ _ _ (by simp; omega) (by simpa using hj)]
      simp [FM.val]
    · simp only [e, if_false]
      rw [get_setL_out _ _ _ _ (by simp; omega)]
      exact h4 i (by omega) j hj
  · intro i hi
    by_cases e : i = k
    · subst e
      simp only [if_true]
      exact FM.At.kept (kept_setL _ _ _) (B := wr.heap.size) (fun k hk => by omega) hf hm
    · simp only [e, if_false]
      exact FM.At.kept (kept_setL _ _ _) (B := g + 1) (fun k hk => by omega) (h6 i (by omega)) ((h5 i (by omega)).onw hb)
  · intro i hi
    by_cases e : i = k
    · subst e
      simp only [if_true]
      exact hf.mono (by omega)
    · simp only [e, if_false]
      exact h6 i (by omega)

set_option maxHeartbeats 1000000 in
theorem toFnS_cap (a : Option Addr) (n c : Nat) (fm : Nat → FM) (w : World) (hn : n ≤ 1048576) (hs : ∀ i, i < n → (fm i).Small) (ha : FnsAt w a n fm) :
    Calls Tryz.prog 14 #[.slice a n c] w fun e w' => ∃ a' fm', e = .returned (.slice a' n n) ∧ Onw w w' ∧ FnsAt w' a' n fm' ∧ (∀ i, (fm' i).toFD = (fm i).toFD) ∧ Frm w.heap.size a' ∧ (∀ i, i < n → (fm' i).Frm w.heap.size) ∧ ∀ i, i < n → (fm' i).nn ≤ (fm' i).nc ∧ ∀ j, j < (fm' i).nn → ((fm' i).nm j).nk ≤ ((fm' i).nm j).kc := by
  have hmk := run_make_fns n hn
  go_enter Tryz.func14, Tryz.ntmps14
  go_wp2
  go_loopw [4] (fun i wr => ∃ k : Nat, k ≤ n ∧ i = .int .i64 k ∧ Onw w wr ∧ ∃ fm' cur, FnsRel wr w.heap.size n k fm fm' cur ∧ ∀ i, i < k → (fm' i).nn ≤ (fm' i).nc ∧ ∀ j, j < (fm' i).nn → ((fm' i).nm j).nk ≤ ((fm' i).nm j).kc) (fun i _ => n - (intOf i).toNat)
  case atStart => exact ⟨0, Nat.zero_le _, rfl, Onw.alloc _ _, fm, _, ⟨Blk.new _ _ _, by simp [size_madeCells], fun i => rfl, fun i hi => by omega, fun i hi => by omega, fun i hi => by omega⟩, fun i hi => by omega⟩
  case round =>
    obtain ⟨k, hk, rfl, hb, fm', cur, R, hcp⟩ := hrel
    have HCP : Hid _ := hcp
    clear hcp
    clear hmk
    by_cases hlt : k < n
    · obtain ⟨b, off, rfl, hc⟩ := (ha.onw hb).1 (by omega)
      obtain ⟨c0, c1, c2, c3, c4, c5, c6⟩ := hc k hlt
      have hsk := hs k hlt
      have HS : Hid _ := hs
      clear hc hs
      go_wp2_with fail
      refine (toFn_cap (fm k) _ hsk.1 hsk.2.1 hsk.2.2.1 hsk.2.2.2 ((ha.2 k hlt).onw hb)).mono ?_
      rintro e w1 ⟨m, rfl, hb1, hm, hfr, hd, hcm⟩
      have HCM : Hid _ := hcm
      clear hcm
      have hbl1 := R.blk.onw hb1
      have hf := hbl1.free
      have hz : w.heap.size < w1.heap.size := hbl1.lt
      obtain ⟨cur', R'⟩ := R.stepC hlt hb1 m hm hfr hd
      have hsz := R.size
      obtain ⟨x0, g0⟩ := hbl1.some (j := k * 7) (by omega)
      obtain ⟨x1, g1⟩ := hbl1.some (j := k * 7 + 1) (by omega)
      obtain ⟨x2, g2⟩ := hbl1.some (j := k * 7 + 2) (by omega)
      obtain ⟨x3, g3⟩ := hbl1.some (j := k * 7 + 3) (by omega)
      obtain ⟨x4, g4⟩ := hbl1.some (j := k * 7 + 4) (by omega)
      obtain ⟨x5, g5⟩ := hbl1.some (j := k * 7 + 5) (by omega)
      obtain ⟨x6, g6⟩ := hbl1.some (j := k * 7 + 6) (by omega)
      clear c0 c1 c2 c3 c4 c5 c6 hsz hd
      go_wp2_with fail
      go_roundw
      case rel => exact ⟨k + 1, by omega, by go_num, below_setL (Nat.le_refl _) [_, _, _, _, _, _, _] _ _ (k * 7) (hb.trans hb1), _, cur', R', fun i hi => by
        by_cases e : i = k
        · subst e; simp only [if_true]; exact HCM.out
        · simp only [if_neg e]; exact HCP.out i (by omega)⟩
      case measure => simp [intOf]; omega
    · go_wp2
      go_ret
      have : k = n := by omega
      subst this
      exact ⟨_, fm', rfl, hb, ⟨fun _ => ⟨_, 0, rfl, fun i hi => by rw [Nat.zero_add]; exact (R.cells i hi).cells R.blk⟩, R.lies⟩, R.data, fun x hx => by cases hx; exact Nat.le_refl _, fun i hi => (R.frm i hi).mono (by omega), HCP.out⟩

set_option maxHeartbeats 1000000 in
theorem toUnit_cap (m : UM) (w : World) (hn : m.nf ≤ 1048576) (hs : ∀ i, i < m.nf → (m.fm i).Small) (ha : m.At w) :
    Calls Tryz.prog 6 #[.agg #[.slice m.fa m.nf m.fc]] w fun e w' => ∃ m' : UM, e = .returned (.agg #[.slice m'.fa m'.nf m'.fc]) ∧ Onw w w' ∧ m'.At w' ∧ m'.toUD = m.toUD ∧ m'.nf = m.nf ∧ ∀ f, f < m'.nf → (m'.fm f).nn ≤ (m'.fm f).nc ∧ ∀ n, n < (m'.fm f).nn → ((m'.fm f).nm n).nk ≤ ((m'.fm f).nm n).kc := by
  have HS : Hid _ := hs
  clear hs
  go_enter Tryz.func6, Tryz.ntmps6
  go_wp2_with fail
  refine (toFnS_cap _ _ _ m.fm _ hn HS.out (by exact FnsAt.onw (((Onw.alloc _ _).trans (Onw.alloc _ _)).trans (Onw.alloc _ _)) ha)).mono ?_
  rintro e w1 ⟨fa, fm', rfl, hb1, hi1, hd, hf3, hg3, hcp⟩
  have HCP : Hid _ := hcp
  clear hcp
  have ob : Onw w w1 := Onw.trans (((Onw.alloc _ _).trans (Onw.alloc _ _)).trans (Onw.alloc _ _)) hb1
  have B1 := Blk.onw ((Onw.alloc _ _).trans hb1) (Blk.new _ 31 _)
  have B2 := Blk.onw hb1 (Blk.new _ 31 _)
  have hz : w.heap.size + 1 + 1 < w1.heap.size := by have := hb1.size; simp at this; omega
  simp only [World.size_alloc] at B1 B2 hf3 hg3
  have HD : Hid _ := hd
  have HG : Hid _ := hg3
  clear hb1 hd hg3
  have c2 := B2.cell
  have f2 := B2.free
  have c1 := B1.cell
  have f1 := B1.free
  go_wp2_with fail
  refine bodyPost_ret (v := .agg #[.slice fa m.nf m.nf]) (by simp [results, Tryz.results6, go_sem, c1]) rfl ⟨⟨m.nf, fm', fa, m.nf⟩, rfl, ?_, ?_, by simp only [UM.toUD]; congr 1; funext i; exact HD.out i, rfl, HCP.out⟩
  · exact below_set (below_set ob (by omega) _) (by omega) _
  · refine FnsAt.kept (p := fun k => w.heap.size + 1 + 1 < k) (B := w.heap.size + 1 + 1 + 1) ?_ (fun k hk => by show _ < _; omega) (hf3.mono (by omega)) (fun i hi => (HG.out i hi).mono (by omega)) hi1
    exact ((Kept.refl _ _).set (by show ¬ _ < _; omega) _).set (by show ¬ _ < _; omega) _
end Go.Proofs.YtjebijnndfkinaaGreat

namespace Go.Proofs.YtjebijnndfkinaaGreat
open Go.RowKit
attribute [local go_sem] run_store_float

theorem fd_fm {m m' : UM} (h : m'.toUD = m.toUD) : m'.nf = m.nf ∧ ∀ i, (m'.fm i).toFD = (m.fm i).toFD := by
  have h1 := congrArg UD.nf h
  have h2 := congrArg UD.fn h
  exact ⟨h1, fun i => congrFun h2 i⟩
theorem small_fd {m m' : FM} (h : m'.toFD = m.toFD) (hs : m.Small) : m'.Small := by
  have e1 := congrArg FD.nv h
  have e2 := congrArg FD.nu h
  have e3 := congrArg FD.nn h
  have e4 := congrArg FD.nd h
  obtain ⟨a, b, c, d⟩ := hs
  have x1 : m'.nv = m.nv := e1
  have x2 : m'.nu = m.nu := e2
  have x3 : m'.nn = m.nn := e3
  refine ⟨by omega, by omega, by omega, fun i hi => ?_⟩
  have h4 : (m'.nm i).toND = (m.nm i).toND := congrFun e4 i
  have := d i (by omega)
  rw [show (m'.nm i).nr = (m.nm i).nr from congrArg ND.nr h4, show (m'.nm i).nk = (m.nm i).nk from congrArg ND.nk h4]
  exact this
theorem sum_fd {m m' : UM} (h : m'.toUD = m.toUD) : sumTo (fun i => (m'.fm i).nn) m'.nf = sumTo (fun i => (m.fm i).nn) m.nf := by
  obtain ⟨h1, h2⟩ := fd_fm h
  rw [h1]
  have : (fun i => (m'.fm i).nn) = (fun i => (m.fm i).nn) := funext fun i => congrArg FD.nn (h2 i)
  rw [this]

/-- The program's CheckUnit, over a copy. -/
theorem implSpec_any (u : UM) (w : World) (hn : u.nf ≤ 1048576) (hs : ∀ f, f < u.nf → (u.fm f).Small) (hsum : sumTo (fun i => (u.fm i).nn) u.nf ≤ 1048576) (hcap : ∀ f, f < u.nf → (u.fm f).nn ≤ (u.fm f).nc ∧ ∀ n, n < (u.fm f).nn → ((u.fm f).nm n).nk ≤ ((u.fm f).nm n).kc) (ha : u.At w) :
    Calls Tryz.prog 7 #[.agg #[.slice u.fa u.nf u.fc]] w fun e w' => e = .returned (fval (specB u.toUD)) ∧ Onw w w' := by
  rw [← impl_spec]
  refine implCheck_any u _ _ w hn hs hsum hcap ha (fun h0 h1 f hf => ok3_of (u := u.toUD) h0 h1 hf) ?_ ?_
  · exact facts_all (u := u.toUD) (fun f hf n hn' => ((hs f hf).2.2.2 n hn').1)
  · intro h f hf n hn' hk
    have := h f hf
    unfold rules2 at this
    rw [if_pos rfl] at this
    exact six_in (d := (u.fm f).toFD) this hn' hk
end Go.Proofs.YtjebijnndfkinaaGreat

namespace Go.Proofs.YtjebijnndfkinaaGreat
open Go.RowKit
attribute [local go_sem] run_store_float

theorem sum_le {f g : Nat → Nat} : ∀ n, (∀ i, i < n → f i ≤ g i) → sumTo f n ≤ sumTo g n
  | 0, _ => Nat.le_refl _
  | n + 1, h => by
    have := sum_le n fun i hi => h i (by omega)
    have := h n (by omega)
    simp only [sumTo]; omega
theorem small_of {m : FM} (h : m.sz ≤ 1048576) : m.Small := by
  unfold FM.sz at h
  refine ⟨by omega, by omega, by omega, fun i hi => ?_⟩
  have h1 : (m.nm i).sz ≤ sumTo (fun i => (m.nm i).sz) m.nn := sum_ge (fun i => (m.nm i).sz) m.nn i hi
  have h2 : (m.nm i).sz = (m.nm i).str.size + (m.nm i).nr + (m.nm i).nk := rfl
  omega
theorem sz_small {u : UM} (h : u.sz ≤ 1048576) : u.nf ≤ 1048576 ∧ (∀ f, f < u.nf → (u.fm f).Small) ∧ sumTo (fun i => (u.fm i).nn) u.nf ≤ 1048576 := by
  unfold UM.sz at h
  refine ⟨by omega, fun f hf => small_of ?_, ?_⟩
  · have : (u.fm f).sz ≤ sumTo (fun i => (u.fm i).sz) u.nf := sum_ge (fun i => (u.fm i).sz) u.nf f hf
    omega
  · have : sumTo (fun i => (u.fm i).nn) u.nf ≤ sumTo (fun i => (u.fm i).sz) u.nf := sum_le u.nf fun i _ => by show _ ≤ (u.fm i).sz; unfold FM.sz; omega
    omega
theorem fval_ints (o : Option Flt) : ∃ i j k : Int, fval o = .agg #[.int .i64 i, .int .i64 j, .int .i64 k] := by
  cases o with
  | none => exact ⟨0, 0, 0, rfl⟩
  | some x => exact ⟨x.code, x.fn, x.node, rfl⟩

set_option maxRecDepth 100000 in
set_option maxHeartbeats 4000000 in
theorem law_any (u : UM) (w : World) (hn : u.nf ≤ 140737488351232) (hs : ∀ i, i < u.nf → (u.fm i).Reach) (ha : u.At w) :
    Calls Tryz.prog 3 #[.agg #[.slice u.fa u.nf u.fc]] w fun e w' => e = .returned (.bool true) ∧ Onw w w' := by
  have HS : Hid _ := hs
  have HA : Hid _ := ha
  clear hs ha
  have N0 := Blk.new w 24 #[.slice u.fa u.nf u.fc]
  have O0 := Onw.alloc w (Obj.cells #[.slice u.fa u.nf u.fc] 24)
  go_enter Tryz.func3, Tryz.ntmps3
  go_wp2_with fail
  refine (szUnit_any u 1048576 _ (by omega) (by omega) hn HS.out (UM.At.onw O0 HA.out)).mono ?_
  rintro e w1 ⟨r, rfl, O1, (rfl | ⟨p1, q1⟩)⟩
  · go_wp2_with fail
    go_ret
    exact ⟨rfl, O0.trans O1⟩
  · have B1 := N0.onw O1
    have o1 := O0.trans O1
    have hsz : u.sz ≤ 1048576 := by omega
    obtain ⟨s1, s2, s3⟩ := sz_small hsz
    have S2 : Hid _ := s2
    have S3 : Hid _ := s3
    have p1' : ¬ r < 0 := by omega
    clear q1 hsz s2 s3 N0 O0 O1
    have b1 := B1.cell
    obtain ⟨i, j, k, hfv⟩ := fval_ints (specB u.toUD)
    have HFV : Hid _ := hfv
    clear hfv
    go_wp2_with fail
    refine (toUnit_cap u _ s1 S2.out (UM.At.onw o1 HA.out)).mono ?_
    rintro e w2 ⟨u2, rfl, O2, a2, e2, n2, c2⟩
    have o2 := o1.trans O2
    have B2 := B1.onw O2
    have C2 : Hid _ := c2
    have E2 : Hid _ := e2
    have N2 : Hid _ := n2
    clear c2 e2 n2 B1 b1 o1 O2
    go_wp2_with fail
    refine (specCheck_any u2 _ (by have := N2.out; omega) (fun f hf => small_fd ((fd_fm E2.out).2 f) (S2.out f (by have := N2.out; omega))) (by rw [sum_fd E2.out]; exact S3.out) a2).mono ?_
    rintro e w3 ⟨rfl, O3⟩
    rw [E2.out, HFV.out]
    have o3 := o2.trans O3
    have B3 := B2.onw O3
    clear B2 o2 O3 a2 C2 E2 N2
    have b3 := B3.cell
    have z3 := B3.lt
    go_wp2_with fail
    have O4 := Onw.alloc w3 (Obj.cells #[.int .i64 i, .int .i64 j, .int .i64 k] 27)
    have BF := Blk.new w3 27 #[.int .i64 i, .int .i64 j, .int .i64 k]
    have o4 := o3.trans O4
    have B4 := B3.onw O4
    clear b3 B3 o3 O4
    generalize w3.alloc (Obj.cells #[.int .i64 i, .int .i64 j, .int .i64 k] 27) = w4 at *
    refine (toUnit_cap u _ s1 S2.out (UM.At.onw o4 HA.out)).mono ?_
    rintro e w5 ⟨u5, rfl, O5, a5, e5, n5, c5⟩
    have o5 := o4.trans O5
    have B5 := B4.onw O5
    have BF5 := BF.onw O5
    have C5 : Hid _ := c5
    have E5 : Hid _ := e5
    have N5 : Hid _ := n5
    clear c5 e5 n5 B4 o4 O5 BF
    go_wp2_with fail
    have O6 := Onw.alloc w5 (Obj.cells #[.slice u5.fa u5.nf u5.fc] 31)
    have BX := Blk.new w5 31 #[.slice u5.fa u5.nf u5.fc]
    have o6 := o5.trans O6
    have B6 := B5.onw O6
    have BF6 := BF5.onw O6
    have a6 := UM.At.onw O6 a5
    clear B5 BF5 o5 O6 a5
    generalize w5.alloc (Obj.cells #[.slice u5.fa u5.nf u5.fc] 31) = w6 at *
    refine (implSpec_any u5 _ (by have := N5.out; omega) (fun f hf => small_fd ((fd_fm E5.out).2 f) (S2.out f (by have := N5.out; omega))) (by rw [sum_fd E5.out]; exact S3.out) C5.out a6).mono ?_
    rintro e w7 ⟨rfl, O7⟩
    rw [E5.out, HFV.out]
    have o7 := o6.trans O7
    have B7 := B6.onw O7
    have BF7 := BF6.onw O7
    have BX7 := BX.onw O7
    have a7 := UM.At.onw O7 a6
    clear B6 BF6 BX o6 O7 a6
    have bf := BF7.cell
    have zf := BF7.lt
    go_wp2_with fail
    have O8 := Onw.alloc w7 (Obj.cells #[.int .i64 i, .int .i64 j, .int .i64 k] 27)
    have o8 := o7.trans O8
    have B8 := B7.onw O8
    have BX8 := BX7.onw O8
    have a8 := UM.At.onw O8 a7
    clear bf BF7 B7 BX7 o7 O8 a7
    generalize w7.alloc (Obj.cells #[.int .i64 i, .int .i64 j, .int .i64 k] 27) = w8 at *
    refine (eqFault_same i j k _).mono ?_
    rintro e w9 ⟨rfl, O9⟩
    have o9 := o8.trans O9
    have B9 := B8.onw O9
    have BX9 := BX8.onw O9
    have a9 := UM.At.onw O9 a8
    clear B8 BX8 o8 O9 a8
    have x0 : w9.cell? ⟨w5.heap.size, 0, none⟩ = some (.slice u5.fa u5.nf u5.fc) := by rw [BX9.cell]; rfl
    have y0 : w9.cell? ⟨w.heap.size, 0, none⟩ = some (.slice u.fa u.nf u.fc) := by rw [B9.cell]; rfl
    go_wp2_with fail
    go_region_held3 (fun w' => w'.cell? ⟨w5.heap.size, 0, none⟩ = some (.slice u5.fa u5.nf u5.fc) ∧ w'.cell? ⟨w.heap.size, 0, none⟩ = some (.slice u.fa u.nf u.fc)) (go_keep)
      (first
        | (go_at_call 6; refine (toUnit_cap u _ s1 S2.out (UM.At.onw (o9.trans (Below.drew (Onw.refl _))) HA.out)).mono ?_; rintro e w10 ⟨u10, rfl, O10, a10, e10, n10, c10⟩; have E10 : Hid _ := e10; have o10 := (show Onw w9 w10 from Onw.trans (Below.drew (Onw.refl _)) O10); have q1 := cell_onw o10 x0; have q2 := cell_onw o10 y0; clear e10 n10 c10)
        | (go_at_call 9; refine (eqUnit_same u5 u10 _ (by have := N5.out; omega) (fun f hf => small_fd ((fd_fm E5.out).2 f) (S2.out f (by have := N5.out; omega))) (E10.out.trans E5.out.symm) (UM.At.onw o10 a9) a10).mono ?_; rintro e w11 ⟨rfl, O11⟩; have r1 := cell_onw O11 q1; have r2 := cell_onw O11 q2))
    go_wp2_with fail
    go_ret
    exact ⟨rfl, (o9.trans o10).trans O11⟩
end Go.Proofs.YtjebijnndfkinaaGreat
