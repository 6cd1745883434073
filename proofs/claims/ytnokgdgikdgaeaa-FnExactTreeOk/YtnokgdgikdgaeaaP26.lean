import Derived.Test.YtnokgdgikdgaeaaP25
import Derived.Test.YtnokgdgikdgaeaaP01
import Derived.Deep.RegionHeld3
import Derived.Deep.Slices
import Derived.Deep.Fields
import Derived.SizedLaws
import Derived.ProofKit
namespace Go.Proofs.Ytnokgdgikdgaeaa
open Go.RowKit
attribute [local go_sem] run_store_float

def textB (pd : Nat → PD) (np : Nat) : Bool := decide (0 < np) && (decide (np ≤ 3000) && ((pd (np - 1)).kind == 1))

set_option maxRecDepth 100000 in
set_option maxHeartbeats 1000000 in
theorem textFits_any (np : Nat) (pm : Nat → PM) (pa : Option Addr) (pc : Nat) (w : World) (hn : np ≤ 1048576) (ha : PartsAt w pa np pm) :
    Calls Try.prog 14 #[.slice pa np pc] w fun e w' => e = .returned (.bool (textB (pdOf pm) np)) ∧ Onw w w' := by
  by_cases h0 : 0 < np
  · obtain ⟨l, rfl⟩ : ∃ l, np = l + 1 := ⟨np - 1, by omega⟩
    have d0 : decide ((1 : Int) ≤ (l : Int) + 1) = true := decide_eq_true (by omega)
    by_cases h1 : l + 1 ≤ 3000
    · have d1 : decide ((l : Int) + 1 ≤ 3000) = true := decide_eq_true (by omega)
      obtain ⟨b, off, rfl, hc⟩ := ha.1 h0
      have p0 := (hc l (by omega)).c0
      clear hc ha
      have fin : Hid (textB (pdOf pm) (l + 1) = ((pm l).kind == 1)) := by
        show _ = _
        unfold textB; rw [decide_eq_true h0, decide_eq_true h1]; rfl
      have i0 : (0 : Int) ≤ (l : Int) := by omega
      have i1 : (l : Int) < (l : Int) + 1 := by omega
      clear h0 h1
      go_enter Try.func14, Try.ntmps14
      go_wp2_with fail
      go_ret
      exact ⟨ret_bool fin.out.symm, Onw.refl _⟩
    · have d1 : decide ((l : Int) + 1 ≤ 3000) = false := decide_eq_false (by omega)
      have fin : Hid (textB (pdOf pm) (l + 1) = false) := by
        show _ = _
        unfold textB; rw [decide_eq_false h1]; simp
      clear h0 h1
      go_enter Try.func14, Try.ntmps14
      go_wp2_with fail
      go_ret
      exact ⟨ret_bool fin.out.symm, Onw.refl _⟩
  · obtain rfl : np = 0 := by omega
    have fin : Hid (textB (pdOf pm) 0 = false) := rfl
    go_enter Try.func14, Try.ntmps14
    go_wp2_with fail
    go_ret
    exact ⟨ret_bool fin.out.symm, Onw.refl _⟩

theorem specTree_any (t : TM) (w : World) (hn : t.np ≤ 1048576) (hs : ∀ i, i < t.np → (t.pm i).Slight) (ht : t.At w) :
    Calls Try.prog 5 #[.agg #[.slice t.pa t.np t.pc]] w fun e w' => e = .returned (.agg #[.int .i64 (specT (pdOf t.pm) t.np).1, .int .i64 (specT (pdOf t.pm) t.np).2]) ∧ Onw w w' := by
  obtain ⟨np, pm, pa, pc⟩ := t
  simp only at *
  cases hb : (decide (0 < np) && (decide (np ≤ 3000) && (((pdOf pm) (np - 1)).kind == 1)))
  · refine (specTree_bad ⟨np, pm, pa, pc⟩ w hn ht hb).mono ?_
    rintro e w' ⟨rfl, o⟩
    have : specT (pdOf pm) np = (1, 0) := by unfold specT; rw [hb]; rfl
    exact ⟨by rw [this], o⟩
  · simp only [Bool.and_eq_true, decide_eq_true_eq, beq_iff_eq] at hb
    obtain ⟨l, rfl⟩ : ∃ l, np = l + 1 := ⟨np - 1, by omega⟩
    exact specTree_good l pm pa pc w hb.2.1 hb.2.2 hs ht

set_option maxRecDepth 100000 in
set_option maxHeartbeats 2000000 in
theorem implTree_any (t : TM) (w : World) (hn : t.np ≤ 1048576) (hs : ∀ i, i < t.np → (t.pm i).Slight) (ht : t.At w) :
    Calls Try.prog 7 #[.agg #[.slice t.pa t.np t.pc]] w fun e w' => e = .returned (.agg #[.int .i64 (specT (pdOf t.pm) t.np).1, .int .i64 (specT (pdOf t.pm) t.np).2]) ∧ Onw w w' := by
  obtain ⟨np, pm, pa, pc⟩ := t
  simp only at *
  have HS : Hid _ := hs
  have HT : Hid _ := ht
  clear hs ht
  have T0 := (Blk.new w 31 #[.slice pa np pc]).onw (Onw.alloc (w.alloc (Obj.cells #[.slice pa np pc] 31)) (Obj.cells #[.int .i64 0, .int .i64 0] 27))
  have R0 := Blk.new (w.alloc (Obj.cells #[.slice pa np pc] 31)) 27 #[.int .i64 0, .int .i64 0]
  have O := (Onw.alloc w (Obj.cells #[.slice pa np pc] 31)).trans (Onw.alloc _ (Obj.cells #[.int .i64 0, .int .i64 0] 27))
  simp only [World.size_alloc] at R0
  go_enter Try.func7, Try.ntmps7
  go_wp2_with fail
  refine (textFits_any np pm pa pc _ hn (PartsAt.onw O HT.out)).mono ?_
  rintro e w1 ⟨rfl, b1⟩
  replace T0 := T0.onw b1
  replace R0 := R0.onw b1
  replace O := O.trans b1
  clear b1
  have x0 : w1.cell? ⟨w.heap.size, 0, none⟩ = some (.slice pa np pc) := by rw [T0.cell]; rfl
  cases hb : textB (pdOf pm) np
  · have fin : Hid (specT (pdOf pm) np = (1, 0)) := by show _ = _; unfold specT; rw [show (decide (0 < np) && (decide (np ≤ 3000) && ((pdOf pm (np - 1)).kind == 1))) = false from hb]; rfl
    have f2 := R0.free
    have y0 : w1.cell? ⟨w.heap.size + 1, 0, none⟩ = some (.int .i64 0) := by rw [R0.cell]; rfl
    have y1 : w1.cell? ⟨w.heap.size + 1, 1, none⟩ = some (.int .i64 0) := by rw [R0.cell]; rfl
    go_wp2_with fail
    exact bodyPost_ret (v := .agg #[.int .i64 1, .int .i64 0]) (by simp [results, Try.results7, go_sem, y0, y1]) rfl ⟨ret_wrong fin.out, by first | exact O | exact below_set (below_set O (by omega) _) (by omega) _ | exact below_set O (by omega) _⟩
  · have hb' := hb
    simp only [textB, Bool.and_eq_true, decide_eq_true_eq, beq_iff_eq] at hb'
    obtain ⟨l, rfl⟩ : ∃ l, np = l + 1 := ⟨np - 1, by omega⟩
    have fin : Hid (specT (pdOf pm) (l + 1) = after 2 (firstBad (fun i => nodeP (pdOf pm) (pdOf pm i) i) 0 (l + 1)) (after 3 (firstBad (fun i => !(sizesN (pdOf pm) (l + 1) i == 0)) 0 (l + 1))
      (bif sizesN (pdOf pm) (l + 1) (l + 1 - 1) == ((l + 1 : Nat) : Int) then after 4 (firstBad (fun i => decide (depD (pdOf pm) (l + 1) (l + 1) i ≤ 100)) 0 (l + 1)) (0, 0) else (3, ((l + 1 : Nat) : Int) - 1)))) := by
      show _ = _
      unfold specT
      rw [show (decide (0 < l + 1) && (decide (l + 1 ≤ 3000) && ((pdOf pm (l + 1 - 1)).kind == 1))) = true from hb]; rfl
    clear hb hb'
    go_wp2_with fail
    refine (piecesOf_any (l + 1) pm pa pc _ hn (PartsAt.onw O HT.out)).mono ?_
    rintro e w2 ⟨ab, pk, rfl, b2, hP⟩
    have HP : Hid _ := hP
    replace O := O.trans b2
    replace R0 := R0.onw b2
    clear b2 T0 x0 hP
    go_wp2_with fail
    refine (firstOffRow_any (l + 1) _ ab pm pk pa _ hn HS.out (PartsAt.onw O HT.out) HP.out).mono ?_
    rintro e w3 ⟨rfl, b3⟩
    have HP3 : Hid _ := PiecesAt.onw b3 HP.out
    replace O := O.trans b3
    replace R0 := R0.onw b3
    rw [rows_eq]
    clear HP b3
    cases h1 : firstBad (fun i => nodeP (pdOf pm) (pdOf pm i) i) 0 (l + 1) with
    | some n =>
      have F1 : Hid _ := h1
      clear h1
      have v1 : optI (some n) = (n : Int) := rfl
      have v2 : ((n : Int) != -1) = true := by simp only [bne_iff_ne, ne_eq]; omega
      rw [v1]
      have f2 := R0.free
      have y0 : w3.cell? ⟨w.heap.size + 1, 0, none⟩ = some (.int .i64 0) := by rw [R0.cell]; rfl
      have y1 : w3.cell? ⟨w.heap.size + 1, 1, none⟩ = some (.int .i64 0) := by rw [R0.cell]; rfl
      go_wp2_with fail
      exact bodyPost_ret (v := .agg #[.int .i64 2, .int .i64 n]) (by simp [results, Try.results7, go_sem, y0, y1]) rfl ⟨ret_wrong (by rw [fin.out, F1.out]; rfl), by first | exact O | exact below_set (below_set O (by omega) _) (by omega) _ | exact below_set O (by omega) _⟩
    | none =>
      have F1 : Hid _ := h1
      have hok := firstBad_none _ _ h1
      have hsl : ∀ i, i < l + 1 → slimP (pm i).toPD := fun i hi => slim_of (hok i (Nat.zero_le _) (by omega))
      have hks : ∀ i, i < l + 1 → ∀ j, j < (pm i).nk → 0 ≤ (pm i).kd j ∧ (pm i).kd j < i := fun i hi => nodeP_kids (hok i (Nat.zero_le _) (by omega))
      have HSL : Hid _ := hsl
      have HKS : Hid _ := hks
      have fin2 : Hid (specT (pdOf pm) (l + 1) = after 3 (orderI (pdOf pm) (l + 1)) (after 4 (firstBad (fun i => decide (depD (pdOf pm) (l + 1) (l + 1) i ≤ 100)) 0 (l + 1)) (0, 0))) := by
        show _ = _
        rw [fin.out, F1.out]
        exact order_eq hks _
      clear h1 hok hsl hks fin F1
      have v1 : optI none = -1 := rfl
      rw [v1]
      go_wp2_with fail
      refine (firstOutOfOrder_any l _ ab pm pk _ hn HSL.out HKS.out HP3.out).mono ?_
      rintro e w4 ⟨rfl, b4⟩
      have HP4 : Hid _ := PiecesAt.onw b4 HP3.out
      replace O := O.trans b4
      replace R0 := R0.onw b4
      clear HP3 b4 v1
      cases h1 : orderI (pdOf pm) (l + 1) with
      | some n =>
        have F1 : Hid _ := h1
        clear h1
        have v1 : optI (some n) = (n : Int) := rfl
        have v2 : ((n : Int) != -1) = true := by simp only [bne_iff_ne, ne_eq]; omega
        rw [v1]
        have f2 := R0.free
        have y0 : w4.cell? ⟨w.heap.size + 1, 0, none⟩ = some (.int .i64 0) := by rw [R0.cell]; rfl
        have y1 : w4.cell? ⟨w.heap.size + 1, 1, none⟩ = some (.int .i64 0) := by rw [R0.cell]; rfl
        go_wp2_with fail
        exact bodyPost_ret (v := .agg #[.int .i64 3, .int .i64 n]) (by simp [results, Try.results7, go_sem, y0, y1]) rfl ⟨ret_wrong (by rw [fin2.out, F1.out]; rfl), by first | exact O | exact below_set (below_set O (by omega) _) (by omega) _ | exact below_set O (by omega) _⟩
      | none =>
        have F1 : Hid _ := h1
        clear h1
        have v1 : optI none = -1 := rfl
        rw [v1]
        go_wp2_with fail
        refine (firstTooDeep_any l _ ab pm pk _ hn HSL.out HKS.out HP4.out).mono ?_
        rintro e w5 ⟨rfl, b5⟩
        replace O := O.trans b5
        replace R0 := R0.onw b5
        clear b5 v1
        cases h1 : firstBad (fun i => decide (depD (pdOf pm) (l + 1) (l + 1) i ≤ 100)) 0 (l + 1) with
        | some n =>
          have F2 : Hid _ := h1
          clear h1
          have v1 : optI (some n) = (n : Int) := rfl
          have v2 : ((n : Int) != -1) = true := by simp only [bne_iff_ne, ne_eq]; omega
          rw [v1]
          have f2 := R0.free
          have y0 : w5.cell? ⟨w.heap.size + 1, 0, none⟩ = some (.int .i64 0) := by rw [R0.cell]; rfl
          have y1 : w5.cell? ⟨w.heap.size + 1, 1, none⟩ = some (.int .i64 0) := by rw [R0.cell]; rfl
          go_wp2_with fail
          exact bodyPost_ret (v := .agg #[.int .i64 4, .int .i64 n]) (by simp [results, Try.results7, go_sem, y0, y1]) rfl ⟨ret_wrong (by rw [fin2.out, F1.out, F2.out]; rfl), by first | exact O | exact below_set (below_set O (by omega) _) (by omega) _ | exact below_set O (by omega) _⟩
        | none =>
          have F2 : Hid _ := h1
          clear h1
          have v1 : optI none = -1 := rfl
          rw [v1]
          have f2 := R0.free
          have y0 : w5.cell? ⟨w.heap.size + 1, 0, none⟩ = some (.int .i64 0) := by rw [R0.cell]; rfl
          have y1 : w5.cell? ⟨w.heap.size + 1, 1, none⟩ = some (.int .i64 0) := by rw [R0.cell]; rfl
          go_wp2_with fail
          exact bodyPost_ret (v := .agg #[.int .i64 0, .int .i64 0]) (by simp [results, Try.results7, go_sem, y0, y1]) rfl ⟨ret_wrong (by rw [fin2.out, F1.out, F2.out]; rfl), by first | exact O | exact below_set (below_set O (by omega) _) (by omega) _ | exact below_set O (by omega) _⟩
end Go.Proofs.Ytnokgdgikdgaeaa

namespace Go.Proofs.Ytnokgdgikdgaeaa
open Go.RowKit
attribute [local go_sem] run_store_float


set_option maxHeartbeats 400000 in
theorem eqWrong_same (i j : Int) (w : World) :
    Calls Try.prog 8 #[.agg #[.int .i64 i, .int .i64 j], .agg #[.int .i64 i, .int .i64 j]] w fun e w' => e = .returned (.bool true) ∧ Onw w w' := by
  go_enter Try.func8, Try.ntmps8
  go_wp2
  go_ret
  exact ⟨rfl, (Onw.alloc _ _).trans (Onw.alloc _ _)⟩
end Go.Proofs.Ytnokgdgikdgaeaa

namespace Go.Proofs.Ytnokgdgikdgaeaa
open Go.RowKit
attribute [local go_sem] run_store_float

theorem sum_ge (f : Nat → Nat) : ∀ (n i : Nat), i < n → f i ≤ sumTo f n
  | 0, _, h => by omega
  | n + 1, i, h => by
    simp only [sumTo]
    by_cases e : i = n
    · subst e; omega
    · have := sum_ge f n i (by omega); omega
theorem slight_of {m : PM} (h : m.sz ≤ 1048576) : m.Slight := by
  unfold PM.sz at h
  refine ⟨by omega, by omega, by omega, fun i hi => ?_⟩
  have : (m.nm i).size ≤ sumTo (fun i => (m.nm i).size) m.nn := sum_ge (fun i => (m.nm i).size) m.nn i hi
  omega
theorem sz_slight {t : TM} (h : t.sz ≤ 1048576) : t.np ≤ 1048576 ∧ ∀ i, i < t.np → (t.pm i).Slight := by
  unfold TM.sz at h
  refine ⟨by omega, fun i hi => slight_of ?_⟩
  have : (t.pm i).sz ≤ sumTo (fun i => (t.pm i).sz) t.np := sum_ge (fun i => (t.pm i).sz) t.np i hi
  omega
theorem td_pm {m m' : TM} (h : m'.toTD = m.toTD) : m'.np = m.np ∧ ∀ i, (m'.pm i).toPD = (m.pm i).toPD := by
  have h1 := congrArg TD.np h
  have h2 := congrArg TD.pt h
  exact ⟨h1, fun i => congrFun h2 i⟩
theorem td_pd {m m' : TM} (h : m'.toTD = m.toTD) : pdOf m'.pm = pdOf m.pm := funext (td_pm h).2
theorem slight_td {m m' : TM} (h : m'.toTD = m.toTD) (hs : ∀ i, i < m.np → (m.pm i).Slight) : ∀ i, i < m'.np → (m'.pm i).Slight := by
  obtain ⟨h1, h2⟩ := td_pm h
  intro i hi
  have := hs i (by omega)
  unfold PM.Slight at this ⊢
  rw [h2 i]; exact this
theorem small_of_slight {t : TM} (hs : ∀ i, i < t.np → (t.pm i).Slight) : ∀ i, i < t.np → (t.pm i).Small := fun i hi => ⟨(hs i hi).2.1, (hs i hi).1⟩

set_option maxRecDepth 100000 in
set_option maxHeartbeats 4000000 in
theorem law_any (t : TM) (w : World) (hn : t.np ≤ 140737488351232) (hs : ∀ i, i < t.np → (t.pm i).Reach) (ha : t.At w) :
    Calls Try.prog 3 #[.agg #[.slice t.pa t.np t.pc]] w fun e w' => e = .returned (.bool true) ∧ Onw w w' := by
  have HS : Hid _ := hs
  have HA : Hid _ := ha
  clear hs ha
  have N0 := Blk.new w 24 #[.slice t.pa t.np t.pc]
  have O0 := Onw.alloc w (Obj.cells #[.slice t.pa t.np t.pc] 24)
  go_enter Try.func3, Try.ntmps3
  go_wp2_with fail
  refine (szTree_any t 1048576 _ (by omega) (by omega) hn HS.out (TM.At.onw O0 HA.out)).mono ?_
  rintro e w1 ⟨r, rfl, O1, (rfl | ⟨p1, q1⟩)⟩
  · go_wp2_with fail
    go_ret
    exact ⟨rfl, O0.trans O1⟩
  · have B1 := N0.onw O1
    have o1 := O0.trans O1
    have hsz : t.sz ≤ 1048576 := by omega
    obtain ⟨s1, s2⟩ := sz_slight hsz
    have S2 : Hid _ := s2
    have p1' : ¬ r < 0 := by omega
    clear q1 hsz s2 N0 O0 O1
    have b1 := B1.cell
    obtain ⟨i, hi⟩ : ∃ i, (specT (pdOf t.pm) t.np).1 = i := ⟨_, rfl⟩
    obtain ⟨j, hj⟩ : ∃ j, (specT (pdOf t.pm) t.np).2 = j := ⟨_, rfl⟩
    have HI : Hid _ := hi
    have HJ : Hid _ := hj
    clear hi hj
    go_wp2_with fail
    refine (toTree_any t _ s1 (small_of_slight S2.out) (TM.At.onw o1 HA.out)).mono ?_
    rintro e w2 ⟨u2, rfl, O2, a2, e2, n2, g2, c2⟩
    have o2 := o1.trans O2
    have B2 := B1.onw O2
    have E2 : Hid _ := e2
    have N2 : Hid _ := n2
    clear e2 n2 g2 c2 B1 b1 o1 O2
    go_wp2_with fail
    refine (specTree_any u2 _ (by have := N2.out; omega) (slight_td E2.out S2.out) a2).mono ?_
    rintro e w3 ⟨rfl, O3⟩
    rw [td_pd E2.out, N2.out, HI.out, HJ.out]
    have o3 := o2.trans O3
    have B3 := B2.onw O3
    clear B2 o2 O3 a2 E2 N2
    have b3 := B3.cell
    have z3 := B3.lt
    go_wp2_with fail
    have O4 := Onw.alloc w3 (Obj.cells #[.int .i64 i, .int .i64 j] 27)
    have BF := Blk.new w3 27 #[.int .i64 i, .int .i64 j]
    have o4 := o3.trans O4
    have B4 := B3.onw O4
    clear b3 B3 o3 O4
    generalize w3.alloc (Obj.cells #[.int .i64 i, .int .i64 j] 27) = w4 at *
    refine (toTree_any t _ s1 (small_of_slight S2.out) (TM.At.onw o4 HA.out)).mono ?_
    rintro e w5 ⟨u5, rfl, O5, a5, e5, n5, g5, c5⟩
    have o5 := o4.trans O5
    have B5 := B4.onw O5
    have BF5 := BF.onw O5
    have E5 : Hid _ := e5
    have N5 : Hid _ := n5
    clear e5 n5 g5 c5 B4 o4 O5 BF
    go_wp2_with fail
    have O6 := Onw.alloc w5 (Obj.cells #[.slice u5.pa u5.np u5.pc] 31)
    have BX := Blk.new w5 31 #[.slice u5.pa u5.np u5.pc]
    have o6 := o5.trans O6
    have B6 := B5.onw O6
    have BF6 := BF5.onw O6
    have a6 := TM.At.onw O6 a5
    clear B5 BF5 o5 O6 a5
    generalize w5.alloc (Obj.cells #[.slice u5.pa u5.np u5.pc] 31) = w6 at *
    refine (implTree_any u5 _ (by have := N5.out; omega) (slight_td E5.out S2.out) a6).mono ?_
    rintro e w7 ⟨rfl, O7⟩
    rw [td_pd E5.out, N5.out, HI.out, HJ.out]
    have o7 := o6.trans O7
    have B7 := B6.onw O7
    have BF7 := BF6.onw O7
    have BX7 := BX.onw O7
    have a7 := TM.At.onw O7 a6
    clear B6 BF6 BX o6 O7 a6
    have bf := BF7.cell
    have zf := BF7.lt
    go_wp2_with fail
    have O8 := Onw.alloc w7 (Obj.cells #[.int .i64 i, .int .i64 j] 27)
    have o8 := o7.trans O8
    have B8 := B7.onw O8
    have BX8 := BX7.onw O8
    have a8 := TM.At.onw O8 a7
    clear bf BF7 B7 BX7 o7 O8 a7
    generalize w7.alloc (Obj.cells #[.int .i64 i, .int .i64 j] 27) = w8 at *
    refine (eqWrong_same i j _).mono ?_
    rintro e w9 ⟨rfl, O9⟩
    have o9 := o8.trans O9
    have B9 := B8.onw O9
    have BX9 := BX8.onw O9
    have a9 := TM.At.onw O9 a8
    clear B8 BX8 o8 O9 a8
    have x0 : w9.cell? ⟨w5.heap.size, 0, none⟩ = some (.slice u5.pa u5.np u5.pc) := by rw [BX9.cell]; rfl
    have y0 : w9.cell? ⟨w.heap.size, 0, none⟩ = some (.slice t.pa t.np t.pc) := by rw [B9.cell]; rfl
    go_wp2_with fail
    go_region_held3 (fun w' => w'.cell? ⟨w5.heap.size, 0, none⟩ = some (.slice u5.pa u5.np u5.pc) ∧ w'.cell? ⟨w.heap.size, 0, none⟩ = some (.slice t.pa t.np t.pc)) (go_keep)
      (first
        | (go_at_call 6; refine (toTree_any t _ s1 (small_of_slight S2.out) (TM.At.onw (o9.trans (Below.drew (Onw.refl _))) HA.out)).mono ?_; rintro e w10 ⟨u10, rfl, O10, a10, e10, n10, g10, c10⟩; have E10 : Hid _ := e10; clear e10 n10 g10 c10; have o10 := (show Onw w9 w10 from Onw.trans (Below.drew (Onw.refl _)) O10); have q1 := cell_onw o10 x0; have q2 := cell_onw o10 y0)
        | (go_at_call 9; refine (eqTree_same u5 u10 _ (by have := N5.out; omega) (small_of_slight (slight_td E5.out S2.out)) (E10.out.trans E5.out.symm) (TM.At.onw o10 a9) a10).mono ?_; rintro e w11 ⟨rfl, O11⟩; have r1 := cell_onw O11 q1; have r2 := cell_onw O11 q2))
    go_wp2_with fail
    go_ret
    exact ⟨rfl, (o9.trans o10).trans O11⟩
end Go.Proofs.Ytnokgdgikdgaeaa

namespace Go.Proofs.Ytnokgdgikdgaeaa
open Go.RowKit Go.Deep Go.ChangeShapes Go.WideShapes

instance : Inhabited PD := ⟨⟨0, 0, 0, 0, 0, 0, 0, ByteArray.empty, 0, fun _ => ByteArray.empty, 0, fun _ => 0⟩⟩
instance : Inhabited PM := ⟨⟨default, none, 0, none, 0⟩⟩

section
variable {H : Type} {enc : TypeId × Value → H} {w : World} {spare : Nat → Bool} {held : Bool}

/-- Each string and slice in it is within the form's reach. -/
def Fit (t : TypeId) (d : DataW H) : Prop := ∀ n, n ∈ d.weights Try.prog t → n ≤ 140737488351232
theorem fit_all_mem {e : TypeId} : ∀ {l : List (DataW H)}, (∀ n, n ∈ DataW.weightsAll Try.prog e l → n ≤ 140737488351232) → ∀ d, d ∈ l → Fit e d
  | [], _, d, hd => by cases hd
  | x :: l, h, d, hd => by
    simp only [DataW.weightsAll, List.mem_append] at h
    rcases List.mem_cons.1 hd with rfl | hd
    · exact fun n hn => h n (Or.inl hn)
    · exact fit_all_mem (fun n hn => h n (Or.inr hn)) d hd
theorem fit_slice {t e : TypeId} (hu : Try.prog.underlying t = some (.slice e)) {elems rest : List (DataW H)} (h : Fit t (.slice elems rest)) : (elems.length + rest.length) * Try.prog.bytesOf e ≤ 140737488351232 ∧ ∀ d, d ∈ elems → Fit e d := by
  unfold Fit at h
  simp only [DataW.weights, hu, List.mem_cons, List.mem_append] at h
  exact ⟨h _ (Or.inl rfl), fit_all_mem fun n hn => h n (Or.inr (Or.inl hn))⟩
theorem fit_agg {t : TypeId} {fs : Array Field} (hu : Try.prog.underlying t = some (.struct fs)) {parts : List (DataW H)} (h : Fit t (.agg parts)) {i : Nat} {f : Field} (hi : fs[i]? = some f) {d : DataW H} (hd : parts[i]? = some d) : Fit f.type d := by
  unfold Fit at h
  simp only [DataW.weights, hu] at h
  exact fun n hn => h n (DataW.weights_mem_each (j := i) (t := f.type) (d := d) (by simp [hi]) hd n hn)

/-- A struct of one-cell fields, field by field. -/
theorem fields {t : TypeId} {fs : Array Field} {fuel : Nat} {cs : List Value} {x : DataW H × List MemPlace} (hs : Try.prog.underlying t = some (.struct fs)) (hone : oneCellFields Try.prog fs = true) (hC : Try.prog.cellsOf t = fs.size) (h : DataW.trod enc Try.prog w 0 spare held fuel t cs = some x) (hf : Fit t x.1) :
    cs.length = fs.size ∧ ∃ n, ∀ (i : Nat) (f : Field), fs[i]? = some f → ∃ v y, cs[i]? = some v ∧ DataW.trod enc Try.prog w 0 spare held n f.type [v] = some y ∧ Fit f.type y.1 := by
  obtain ⟨xs, n, _, rfl, hl, hxl, hg⟩ := DataW.trod_struct hs h
  rw [hC] at hl
  refine ⟨hl, n, fun i f hi => ?_⟩
  have hlt : i < fs.size := (Array.getElem?_eq_some_iff.1 hi).1
  obtain ⟨ho, hc1⟩ := hone_of hone i f hi
  have g := hg i f hi
  rw [ho, hc1, take1_drop cs i undef (by omega)] at g
  have e1 : cs[i]? = some (cs.getD i undef) := by simp [List.getD, List.getElem?_eq_getElem (show i < cs.length by omega)]
  have e2 : xs[i]? = some (xs.getD i (.nil, [])) := by simp [List.getD, List.getElem?_eq_getElem (show i < xs.length by omega)]
  refine ⟨_, xs.getD i (.nil, []), e1, by rw [g, e2], ?_⟩
  refine fit_agg hs hf hi ?_
  rw [List.getElem?_map, e2]; rfl

/-- A slice, element by element. -/
theorem elems {t e : TypeId} {fuel : Nat} {v : Value} {x : DataW H × List MemPlace} (ht : Try.prog.underlying t = some (.slice e)) (hb : 1 ≤ Try.prog.bytesOf e) (hp : 0 < Try.prog.cellsOf e) (h : DataW.trod enc Try.prog w 0 spare held fuel t [v] = some x) (hf : Fit t x.1) :
    ∃ (a : Option Addr) (l c n : Nat), v = .slice a l c ∧ l ≤ 140737488351232 ∧ (0 < l → ∃ b off, a = some ⟨b, off, none⟩ ∧ ∀ i, i < l → ∃ cs y, cs.length = Try.prog.cellsOf e ∧ (∀ j, j < Try.prog.cellsOf e → w.cell? ⟨b, off + i * Try.prog.cellsOf e + j, none⟩ = cs[j]?) ∧ DataW.trod enc Try.prog w 0 spare held n e cs = some y ∧ Fit e y.1) := by
  rcases open_slice ht h with ⟨h0, _⟩ | ⟨a, len, cap, m, n, D, Pl, hcs, _, hl, hm, hmm, rfl, hx⟩
  · simp only [List.cons.injEq, and_true] at h0
    exact ⟨none, 0, 0, 0, h0, by omega, fun h => absurd h (Nat.lt_irrefl 0)⟩
  · simp only [List.cons.injEq, and_true] at hcs
    have hlm : len ≤ m := by rw [hmm]; split <;> omega
    obtain ⟨f1, f2⟩ := fit_slice ht hf
    simp only [List.length_map, List.length_range] at f1
    refine ⟨some a, len, cap, n, hcs, ?_, fun h0 => ?_⟩
    · have h2 : (len + (m - len)) * 1 ≤ (len + (m - len)) * Try.prog.bytesOf e := Nat.mul_le_mul_left _ hb
      omega
    · obtain ⟨b, off, spot⟩ := a
      have hspot : spot = none := by
        obtain ⟨cs0, g1, _⟩ := hx 0 (by omega)
        obtain ⟨_, hlen, hcell⟩ := World.cells?_some g1
        have := hcell 0 hp
        rw [List.getElem?_eq_getElem (by omega)] at this
        simpa [Addr.add] using World.cell?_spot this
      subst hspot
      refine ⟨b, off, rfl, fun i hi => ?_⟩
      obtain ⟨cs, g1, g2⟩ := hx i (by omega)
      obtain ⟨_, hlen, hcell⟩ := World.cells?_some g1
      refine ⟨cs, (D i, Pl i), hlen, fun j hj => ?_, g2, f2 _ (List.mem_map.2 ⟨i, List.mem_range.2 hi, rfl⟩)⟩
      have := hcell j hj
      rw [add_plain, add_plain] at this
      exact this

theorem trod_float {t : TypeId} {k : FloatKind} {fuel : Nat} {cs : List Value} {x : DataW H × List MemPlace} (ht : Try.prog.underlying t = some (.float k)) (h : DataW.trod enc Try.prog w 0 spare held fuel t cs = some x) : ∃ b, cs = [.float k b] := by
  cases fuel with
  | zero => simp [DataW.trod] at h
  | succ n =>
    unfold DataW.trod at h
    rw [ht] at h
    split at h <;> simp_all

theorem is_int {n : Nat} {v : Value} {y : DataW H × List MemPlace} {t : TypeId} (ht : Try.prog.underlying t = some (.int .i64)) (h : DataW.trod enc Try.prog w 0 spare held n t [v] = some y) : ∃ x, v = .int .i64 x := by
  obtain ⟨x, h1, _⟩ := DataW.trod_int ht h
  exact ⟨x, by simpa using h1⟩
theorem is_string {n : Nat} {v : Value} {y : DataW H × List MemPlace} (h : DataW.trod enc Try.prog w 0 spare held n 9 [v] = some y) (hf : Fit 9 y.1) : ∃ s : ByteArray, v = .string s ∧ s.size ≤ 140737488351232 := by
  obtain ⟨s, h1, h2, _⟩ := DataW.trod_string Try.underlying9 h
  refine ⟨s, by simpa using h1, ?_⟩
  rw [h2] at hf
  have := hf s.data.toList.length (by simp [DataW.weights])
  simpa using this
theorem is_bool {n : Nat} {v : Value} {y : DataW H × List MemPlace} (h : DataW.trod enc Try.prog w 0 spare held n 4 [v] = some y) : ∃ b, v = .bool b := by
  obtain ⟨b, h1, _⟩ := DataW.trod_bool Try.underlying4 h
  exact ⟨b, by simpa using h1⟩
end
end Go.Proofs.Ytnokgdgikdgaeaa

namespace Go.Proofs.Ytnokgdgikdgaeaa
open Go.RowKit Go.Deep Go.ChangeShapes Go.WideShapes

theorem cells_int : Try.prog.cellsOf 3 = 1 := by kernel_rfl
theorem cells_str : Try.prog.cellsOf 9 = 1 := by kernel_rfl
theorem cells_part : Try.prog.cellsOf 51 = 10 := by kernel_rfl
theorem cells_tree : Try.prog.cellsOf 24 = 1 := by kernel_rfl
theorem bytes_int : Try.prog.bytesOf 3 = 8 := by kernel_rfl
theorem bytes_str : Try.prog.bytesOf 9 = 16 := by kernel_rfl
theorem bytes_part : Try.prog.bytesOf 51 = 120 := by kernel_rfl

section
variable {H : Type} {enc : TypeId × Value → H} {w : World} {spare : Nat → Bool} {held : Bool}

theorem open_intsF {n : Nat} {v : Value} {y : DataW H × List MemPlace} (h : DataW.trod enc Try.prog w 0 spare held n 39 [v] = some y) (hf : Fit 39 y.1) :
    ∃ (a : Option Addr) (l c : Nat) (f : Nat → Int), v = .slice a l c ∧ l ≤ 140737488351232 ∧ IntsAt w a l f := by
  obtain ⟨a, l, c, m, rfl, hl, hx⟩ := elems Try.underlying39 (by rw [bytes_int]; omega) (by rw [cells_int]; omega) h hf
  by_cases h0 : 0 < l
  · obtain ⟨b, off, rfl, hc⟩ := hx h0
    rw [cells_int] at hc
    obtain ⟨f, hf2⟩ := choose_lt (α := Int) (p := fun i x => w.cell? ⟨b, off + i, none⟩ = some (.int .i64 x)) (fun i hi => by
      obtain ⟨cs, y', hlen, hcell, ht, _⟩ := hc i hi
      match cs, hlen with
      | [v], _ =>
        obtain ⟨x, rfl⟩ := is_int Try.underlying3 ht
        have := hcell 0 (by omega)
        simp only [Nat.mul_one, Nat.add_zero] at this
        exact ⟨x, this⟩)
    exact ⟨_, l, c, f, rfl, hl, fun _ => ⟨b, off, rfl, hf2⟩⟩
  · exact ⟨a, l, c, fun _ => 0, rfl, hl, fun h => absurd h h0⟩
theorem open_strsF {n : Nat} {v : Value} {y : DataW H × List MemPlace} (h : DataW.trod enc Try.prog w 0 spare held n 38 [v] = some y) (hf : Fit 38 y.1) :
    ∃ (a : Option Addr) (l c : Nat) (f : Nat → ByteArray), v = .slice a l c ∧ l ≤ 140737488351232 ∧ StrsAt w a l f ∧ ∀ i, i < l → (f i).size ≤ 140737488351232 := by
  obtain ⟨a, l, c, m, rfl, hl, hx⟩ := elems Try.underlying38 (by rw [bytes_str]; omega) (by rw [cells_str]; omega) h hf
  by_cases h0 : 0 < l
  · obtain ⟨b, off, rfl, hc⟩ := hx h0
    rw [cells_str] at hc
    obtain ⟨f, hf2⟩ := choose_lt (α := ByteArray) (p := fun i x => w.cell? ⟨b, off + i, none⟩ = some (.string x) ∧ x.size ≤ 140737488351232) (fun i hi => by
      obtain ⟨cs, y', hlen, hcell, ht, hft⟩ := hc i hi
      match cs, hlen with
      | [v], _ =>
        obtain ⟨x, rfl, hs⟩ := is_string ht hft
        have := hcell 0 (by omega)
        simp only [Nat.mul_one, Nat.add_zero] at this
        exact ⟨x, this, hs⟩)
    exact ⟨_, l, c, f, rfl, hl, fun _ => ⟨b, off, rfl, fun i hi => (hf2 i hi).1⟩, fun i hi => (hf2 i hi).2⟩
  · exact ⟨a, l, c, fun _ => ByteArray.empty, rfl, hl, fun h => absurd h h0, fun i hi => by omega⟩

theorem open_part {n : Nat} {cs : List Value} {y : DataW H × List MemPlace} (h : DataW.trod enc Try.prog w 0 spare held n 51 cs = some y) (hf : Fit 51 y.1) :
    ∃ m : PM, m.At w ∧ m.Reach ∧ ∀ j, j < 10 → cs[j]? = m.val[j]? := by
  obtain ⟨_, n', hg⟩ := fields Try.underlying51 (by kernel_rfl) (by kernel_rfl) h hf
  obtain ⟨v0, y0, e0, t0, _⟩ := hg 0 _ rfl
  obtain ⟨v1, y1, e1, t1, _⟩ := hg 1 _ rfl
  obtain ⟨v2, y2, e2, t2, _⟩ := hg 2 _ rfl
  obtain ⟨v3, y3, e3, t3, _⟩ := hg 3 _ rfl
  obtain ⟨v4, y4, e4, t4, _⟩ := hg 4 _ rfl
  obtain ⟨v5, y5, e5, t5, _⟩ := hg 5 _ rfl
  obtain ⟨v6, y6, e6, t6, _⟩ := hg 6 _ rfl
  obtain ⟨v7, y7, e7, t7, f7⟩ := hg 7 _ rfl
  obtain ⟨v8, y8, e8, t8, f8⟩ := hg 8 _ rfl
  obtain ⟨v9, y9, e9, t9, f9⟩ := hg 9 _ rfl
  obtain ⟨x0, rfl⟩ := is_int Try.underlying3 t0
  obtain ⟨x1, rfl⟩ := is_int Try.underlying3 t1
  obtain ⟨x2, rfl⟩ := is_int Try.underlying3 t2
  obtain ⟨x3, rfl⟩ := is_int Try.underlying3 t3
  obtain ⟨x4, rfl⟩ := is_int Try.underlying3 t4
  obtain ⟨x5, rfl⟩ := is_int Try.underlying2 t5
  obtain ⟨x6, h6⟩ := trod_float Try.underlying37 t6
  simp only [List.cons.injEq, and_true] at h6
  subst h6
  obtain ⟨s7, rfl, hs7⟩ := is_string t7 f7
  obtain ⟨a8, l8, c8, g8, rfl, hl8, hi8, hr8⟩ := open_strsF t8 f8
  obtain ⟨a9, l9, c9, g9, rfl, hl9, hi9⟩ := open_intsF t9 f9
  refine ⟨⟨⟨x0, x1, x2, x3, x4, x5, x6, s7, l8, g8, l9, g9⟩, a8, c8, a9, c9⟩, ⟨hi8, hi9⟩, ⟨hs7, hl8, hl9, hr8⟩, fun j hj => ?_⟩
  have cs' : j = 0 ∨ j = 1 ∨ j = 2 ∨ j = 3 ∨ j = 4 ∨ j = 5 ∨ j = 6 ∨ j = 7 ∨ j = 8 ∨ j = 9 := by omega
  rcases cs' with rfl | rfl | rfl | rfl | rfl | rfl | rfl | rfl | rfl | rfl
  · exact e0
  · exact e1
  · exact e2
  · exact e3
  · exact e4
  · exact e5
  · exact e6
  · exact e7
  · exact e8
  · exact e9
theorem open_parts {n : Nat} {v : Value} {y : DataW H × List MemPlace} (h : DataW.trod enc Try.prog w 0 spare held n 22 [v] = some y) (hf : Fit 22 y.1) :
    ∃ t : TM, v = .slice t.pa t.np t.pc ∧ t.np ≤ 140737488351232 ∧ t.At w ∧ ∀ i, i < t.np → (t.pm i).Reach := by
  obtain ⟨a, l, c, m, rfl, hl, hx⟩ := elems Try.underlying22 (by rw [bytes_part]; omega) (by rw [cells_part]; omega) h hf
  by_cases h0 : 0 < l
  · obtain ⟨b, off, rfl, hc⟩ := hx h0
    rw [cells_part] at hc
    obtain ⟨pm, hf2⟩ := choose_lt (α := PM) (p := fun i x => PartCells w b (off + i * 10) x ∧ x.At w ∧ x.Reach) (fun i hi => by
      obtain ⟨cs, y', hlen, hcell, ht, hft⟩ := hc i hi
      obtain ⟨m, h1, h2, h3⟩ := open_part ht hft
      exact ⟨m, ⟨(hcell 0 (by omega)).trans (h3 0 (by omega)), (hcell 1 (by omega)).trans (h3 1 (by omega)), (hcell 2 (by omega)).trans (h3 2 (by omega)), (hcell 3 (by omega)).trans (h3 3 (by omega)), (hcell 4 (by omega)).trans (h3 4 (by omega)), (hcell 5 (by omega)).trans (h3 5 (by omega)), (hcell 6 (by omega)).trans (h3 6 (by omega)), (hcell 7 (by omega)).trans (h3 7 (by omega)), (hcell 8 (by omega)).trans (h3 8 (by omega)), (hcell 9 (by omega)).trans (h3 9 (by omega))⟩, h1, h2⟩)
    exact ⟨⟨l, pm, some ⟨b, off, none⟩, c⟩, rfl, hl, ⟨fun _ => ⟨b, off, rfl, fun i hi => (hf2 i hi).1⟩, fun i hi => (hf2 i hi).2.1⟩, fun i hi => (hf2 i hi).2.2⟩
  · exact ⟨⟨l, fun _ => default, a, c⟩, rfl, hl, ⟨fun h => absurd h h0, fun i hi => absurd (show 0 < l from Nat.lt_of_le_of_lt (Nat.zero_le _) hi) h0⟩, fun i hi => absurd (show 0 < l from Nat.lt_of_le_of_lt (Nat.zero_le _) hi) h0⟩
end
end Go.Proofs.Ytnokgdgikdgaeaa
