import Derived.Test.YtnokgdgikdgaeaaP19
import Derived.Test.YtnokgdgikdgaeaaP01
import Derived.Deep.RegionHeld3
namespace Go.Proofs.Ytnokgdgikdgaeaa
open Go.RowKit

theorem nn_1 {pd : Nat → PD} {d : PD} (h : stmt1 pd d = true) : d.nn ≤ 200 := by
  unfold stmt1 at h
  grind [bareP, namedP]
theorem nn_2 {pd : Nat → PD} {d : PD} (h : stmt2 pd d = true) : d.nn ≤ 200 := by
  unfold stmt2 at h
  grind [bareP, namedP]
theorem nn_3 {pd : Nat → PD} {d : PD} (h : stmt3 pd d = true) : d.nn ≤ 200 := by
  unfold stmt3 at h
  grind [bareP, namedP]
theorem nn_4 {pd : Nat → PD} {d : PD} (h : stmt4 pd d = true) : d.nn ≤ 200 := by
  unfold stmt4 at h
  grind [bareP, namedP]
theorem nn_5 {pd : Nat → PD} {d : PD} (h : stmt5 pd d = true) : d.nn ≤ 200 := by
  unfold stmt5 at h
  grind [bareP, namedP]
theorem nn_6 {pd : Nat → PD} {d : PD} (h : stmt6 pd d = true) : d.nn ≤ 200 := by
  unfold stmt6 at h
  grind [bareP, namedP]
theorem nn_16 {pd : Nat → PD} {d : PD} (h : stmt16 pd d = true) : d.nn ≤ 200 := by
  unfold stmt16 at h
  grind [bareP, namedP]
theorem nn_7 {pd : Nat → PD} {d : PD} (h : stmt7 pd d = true) : d.nn ≤ 200 := by
  unfold stmt7 at h
  grind [bareP, namedP]
theorem nn_8 {pd : Nat → PD} {d : PD} (h : stmt8 pd d = true) : d.nn ≤ 200 := by
  unfold stmt8 at h
  grind [bareP, namedP]
theorem nn_9 {pd : Nat → PD} {d : PD} (h : stmt9 pd d = true) : d.nn ≤ 200 := by
  unfold stmt9 at h
  grind [bareP, namedP]
theorem nn_10 {pd : Nat → PD} {d : PD} (h : stmt10 pd d = true) : d.nn ≤ 200 := by
  unfold stmt10 at h
  grind [bareP, namedP]
theorem nn_11 {pd : Nat → PD} {d : PD} (h : stmt11 pd d = true) : d.nn ≤ 200 := by
  unfold stmt11 at h
  grind [bareP, namedP]
theorem nn_12 {pd : Nat → PD} {d : PD} (h : stmt12 pd d = true) : d.nn ≤ 200 := by
  unfold stmt12 at h
  grind [bareP, namedP]
theorem nn_13 {pd : Nat → PD} {d : PD} (h : stmt13 pd d = true) : d.nn ≤ 200 := by
  unfold stmt13 at h
  grind [bareP, namedP]
theorem nn_14 {pd : Nat → PD} {d : PD} (h : stmt14 pd d = true) : d.nn ≤ 200 := by
  unfold stmt14 at h
  grind [bareP, namedP]
theorem nn_15 {pd : Nat → PD} {d : PD} (h : stmt15 pd d = true) : d.nn ≤ 200 := by
  unfold stmt15 at h
  grind [bareP, namedP]
theorem nn_20 {pd : Nat → PD} {d : PD} (h : expn20 pd d = true) : d.nn ≤ 200 := by
  unfold expn20 at h
  grind [bareP, namedP]
theorem nn_21 {pd : Nat → PD} {d : PD} (h : expn21 pd d = true) : d.nn ≤ 200 := by
  unfold expn21 at h
  grind [bareP, namedP]
theorem nn_22 {pd : Nat → PD} {d : PD} (h : expn22 pd d = true) : d.nn ≤ 200 := by
  unfold expn22 at h
  grind [bareP, namedP]
theorem nn_23 {pd : Nat → PD} {d : PD} (h : expn23 pd d = true) : d.nn ≤ 200 := by
  unfold expn23 at h
  grind [bareP, namedP]
theorem nn_24 {pd : Nat → PD} {d : PD} (h : expn24 pd d = true) : d.nn ≤ 200 := by
  unfold expn24 at h
  grind [bareP, namedP]
theorem nn_25 {pd : Nat → PD} {d : PD} (h : expn25 pd d = true) : d.nn ≤ 200 := by
  unfold expn25 at h
  grind [bareP, namedP]
theorem nn_26 {pd : Nat → PD} {d : PD} (h : expn26 pd d = true) : d.nn ≤ 200 := by
  unfold expn26 at h
  grind [bareP, namedP]
theorem nn_27 {pd : Nat → PD} {d : PD} (h : expn27 pd d = true) : d.nn ≤ 200 := by
  unfold expn27 at h
  grind [bareP, namedP]
theorem nn_28 {pd : Nat → PD} {d : PD} (h : expn28 pd d = true) : d.nn ≤ 200 := by
  unfold expn28 at h
  grind [bareP, namedP]
theorem nn_29 {pd : Nat → PD} {d : PD} (h : expn29 pd d = true) : d.nn ≤ 200 := by
  unfold expn29 at h
  grind [bareP, namedP]
theorem nn_30 {pd : Nat → PD} {d : PD} (h : expn30 pd d = true) : d.nn ≤ 200 := by
  unfold expn30 at h
  grind [bareP, namedP]
theorem nn_31 {pd : Nat → PD} {d : PD} (h : expn31 pd d = true) : d.nn ≤ 200 := by
  unfold expn31 at h
  grind [bareP, namedP]
theorem nn_32 {pd : Nat → PD} {d : PD} (h : expn32 pd d = true) : d.nn ≤ 200 := by
  unfold expn32 at h
  grind [bareP, namedP]
theorem nn_33 {pd : Nat → PD} {d : PD} (h : expn33 pd d = true) : d.nn ≤ 200 := by
  unfold expn33 at h
  grind [bareP, namedP]
theorem nn_34 {pd : Nat → PD} {d : PD} (h : expn34 pd d = true) : d.nn ≤ 200 := by
  unfold expn34 at h
  grind [bareP, namedP]
theorem nn_35 {pd : Nat → PD} {d : PD} (h : expn35 pd d = true) : d.nn ≤ 200 := by
  unfold expn35 at h
  grind [bareP, namedP]
theorem nn_36 {pd : Nat → PD} {d : PD} (h : expn36 pd d = true) : d.nn ≤ 200 := by
  unfold expn36 at h
  grind [bareP, namedP]
theorem nn_37 {pd : Nat → PD} {d : PD} (h : expn37 pd d = true) : d.nn ≤ 200 := by
  unfold expn37 at h
  grind [bareP, namedP]
theorem nn_40 {pd : Nat → PD} {d : PD} (h : expn40 pd d = true) : d.nn ≤ 200 := by
  unfold expn40 at h
  grind [bareP, namedP]
theorem nn_41 {pd : Nat → PD} {d : PD} (h : expn41 pd d = true) : d.nn ≤ 200 := by
  unfold expn41 at h
  grind [bareP, namedP]
theorem nn_42 {pd : Nat → PD} {d : PD} (h : expn42 pd d = true) : d.nn ≤ 200 := by
  unfold expn42 at h
  grind [bareP, namedP]
theorem shape_nn {pd : Nat → PD} {d : PD} (h : shapeP pd d = true) : d.nn ≤ 200 := by
  unfold shapeP at h
  rcases kinds_all d.kind with hk | hk | hk | hk | hk | hk | hk | hk | hk | hk | hk | hk | hk | hk | hk | hk | hk | hk | hk | hk | hk | hk | hk | hk | hk | hk | hk | hk | hk | hk | hk | hk | hk | hk | hk | hk | hk | ⟨_, _, h3⟩
  · have e4 : statP d.kind = true := by rw [hk]; rfl
    have e5 : stmtP pd d = stmt1 pd d := by unfold stmtP; rw [hk]; rfl
    rw [e4] at h
    simp only [cond_true, e5] at h
    exact nn_1 h
  · have e4 : statP d.kind = true := by rw [hk]; rfl
    have e5 : stmtP pd d = stmt2 pd d := by unfold stmtP; rw [hk]; rfl
    rw [e4] at h
    simp only [cond_true, e5] at h
    exact nn_2 h
  · have e4 : statP d.kind = true := by rw [hk]; rfl
    have e5 : stmtP pd d = stmt3 pd d := by unfold stmtP; rw [hk]; rfl
    rw [e4] at h
    simp only [cond_true, e5] at h
    exact nn_3 h
  · have e4 : statP d.kind = true := by rw [hk]; rfl
    have e5 : stmtP pd d = stmt4 pd d := by unfold stmtP; rw [hk]; rfl
    rw [e4] at h
    simp only [cond_true, e5] at h
    exact nn_4 h
  · have e4 : statP d.kind = true := by rw [hk]; rfl
    have e5 : stmtP pd d = stmt5 pd d := by unfold stmtP; rw [hk]; rfl
    rw [e4] at h
    simp only [cond_true, e5] at h
    exact nn_5 h
  · have e4 : statP d.kind = true := by rw [hk]; rfl
    have e5 : stmtP pd d = stmt6 pd d := by unfold stmtP; rw [hk]; rfl
    rw [e4] at h
    simp only [cond_true, e5] at h
    exact nn_6 h
  · have e4 : statP d.kind = true := by rw [hk]; rfl
    have e5 : stmtP pd d = stmt16 pd d := by unfold stmtP; rw [hk]; rfl
    rw [e4] at h
    simp only [cond_true, e5] at h
    exact nn_16 h
  · have e4 : statP d.kind = true := by rw [hk]; rfl
    have e5 : stmtP pd d = stmt7 pd d := by unfold stmtP; rw [hk]; rfl
    rw [e4] at h
    simp only [cond_true, e5] at h
    exact nn_7 h
  · have e4 : statP d.kind = true := by rw [hk]; rfl
    have e5 : stmtP pd d = stmt8 pd d := by unfold stmtP; rw [hk]; rfl
    rw [e4] at h
    simp only [cond_true, e5] at h
    exact nn_8 h
  · have e4 : statP d.kind = true := by rw [hk]; rfl
    have e5 : stmtP pd d = stmt9 pd d := by unfold stmtP; rw [hk]; rfl
    rw [e4] at h
    simp only [cond_true, e5] at h
    exact nn_9 h
  · have e4 : statP d.kind = true := by rw [hk]; rfl
    have e5 : stmtP pd d = stmt10 pd d := by unfold stmtP; rw [hk]; rfl
    rw [e4] at h
    simp only [cond_true, e5] at h
    exact nn_10 h
  · have e4 : statP d.kind = true := by rw [hk]; rfl
    have e5 : stmtP pd d = stmt11 pd d := by unfold stmtP; rw [hk]; rfl
    rw [e4] at h
    simp only [cond_true, e5] at h
    exact nn_11 h
  · have e4 : statP d.kind = true := by rw [hk]; rfl
    have e5 : stmtP pd d = stmt12 pd d := by unfold stmtP; rw [hk]; rfl
    rw [e4] at h
    simp only [cond_true, e5] at h
    exact nn_12 h
  · have e4 : statP d.kind = true := by rw [hk]; rfl
    have e5 : stmtP pd d = stmt13 pd d := by unfold stmtP; rw [hk]; rfl
    rw [e4] at h
    simp only [cond_true, e5] at h
    exact nn_13 h
  · have e4 : statP d.kind = true := by rw [hk]; rfl
    have e5 : stmtP pd d = stmt14 pd d := by unfold stmtP; rw [hk]; rfl
    rw [e4] at h
    simp only [cond_true, e5] at h
    exact nn_14 h
  · have e4 : statP d.kind = true := by rw [hk]; rfl
    have e5 : stmtP pd d = stmt15 pd d := by unfold stmtP; rw [hk]; rfl
    rw [e4] at h
    simp only [cond_true, e5] at h
    exact nn_15 h
  · have e4 : statP d.kind = false := by rw [hk]; rfl
    have e5 : expnP pd d = expn20 pd d := by unfold expnP; rw [hk]; rfl
    rw [e4] at h
    simp only [cond_false, e5] at h
    exact nn_20 h
  · have e4 : statP d.kind = false := by rw [hk]; rfl
    have e5 : expnP pd d = expn21 pd d := by unfold expnP; rw [hk]; rfl
    rw [e4] at h
    simp only [cond_false, e5] at h
    exact nn_21 h
  · have e4 : statP d.kind = false := by rw [hk]; rfl
    have e5 : expnP pd d = expn22 pd d := by unfold expnP; rw [hk]; rfl
    rw [e4] at h
    simp only [cond_false, e5] at h
    exact nn_22 h
  · have e4 : statP d.kind = false := by rw [hk]; rfl
    have e5 : expnP pd d = expn23 pd d := by unfold expnP; rw [hk]; rfl
    rw [e4] at h
    simp only [cond_false, e5] at h
    exact nn_23 h
  · have e4 : statP d.kind = false := by rw [hk]; rfl
    have e5 : expnP pd d = expn24 pd d := by unfold expnP; rw [hk]; rfl
    rw [e4] at h
    simp only [cond_false, e5] at h
    exact nn_24 h
  · have e4 : statP d.kind = false := by rw [hk]; rfl
    have e5 : expnP pd d = expn25 pd d := by unfold expnP; rw [hk]; rfl
    rw [e4] at h
    simp only [cond_false, e5] at h
    exact nn_25 h
  · have e4 : statP d.kind = false := by rw [hk]; rfl
    have e5 : expnP pd d = expn26 pd d := by unfold expnP; rw [hk]; rfl
    rw [e4] at h
    simp only [cond_false, e5] at h
    exact nn_26 h
  · have e4 : statP d.kind = false := by rw [hk]; rfl
    have e5 : expnP pd d = expn27 pd d := by unfold expnP; rw [hk]; rfl
    rw [e4] at h
    simp only [cond_false, e5] at h
    exact nn_27 h
  · have e4 : statP d.kind = false := by rw [hk]; rfl
    have e5 : expnP pd d = expn28 pd d := by unfold expnP; rw [hk]; rfl
    rw [e4] at h
    simp only [cond_false, e5] at h
    exact nn_28 h
  · have e4 : statP d.kind = false := by rw [hk]; rfl
    have e5 : expnP pd d = expn29 pd d := by unfold expnP; rw [hk]; rfl
    rw [e4] at h
    simp only [cond_false, e5] at h
    exact nn_29 h
  · have e4 : statP d.kind = false := by rw [hk]; rfl
    have e5 : expnP pd d = expn30 pd d := by unfold expnP; rw [hk]; rfl
    rw [e4] at h
    simp only [cond_false, e5] at h
    exact nn_30 h
  · have e4 : statP d.kind = false := by rw [hk]; rfl
    have e5 : expnP pd d = expn31 pd d := by unfold expnP; rw [hk]; rfl
    rw [e4] at h
    simp only [cond_false, e5] at h
    exact nn_31 h
  · have e4 : statP d.kind = false := by rw [hk]; rfl
    have e5 : expnP pd d = expn32 pd d := by unfold expnP; rw [hk]; rfl
    rw [e4] at h
    simp only [cond_false, e5] at h
    exact nn_32 h
  · have e4 : statP d.kind = false := by rw [hk]; rfl
    have e5 : expnP pd d = expn33 pd d := by unfold expnP; rw [hk]; rfl
    rw [e4] at h
    simp only [cond_false, e5] at h
    exact nn_33 h
  · have e4 : statP d.kind = false := by rw [hk]; rfl
    have e5 : expnP pd d = expn34 pd d := by unfold expnP; rw [hk]; rfl
    rw [e4] at h
    simp only [cond_false, e5] at h
    exact nn_34 h
  · have e4 : statP d.kind = false := by rw [hk]; rfl
    have e5 : expnP pd d = expn35 pd d := by unfold expnP; rw [hk]; rfl
    rw [e4] at h
    simp only [cond_false, e5] at h
    exact nn_35 h
  · have e4 : statP d.kind = false := by rw [hk]; rfl
    have e5 : expnP pd d = expn36 pd d := by unfold expnP; rw [hk]; rfl
    rw [e4] at h
    simp only [cond_false, e5] at h
    exact nn_36 h
  · have e4 : statP d.kind = false := by rw [hk]; rfl
    have e5 : expnP pd d = expn37 pd d := by unfold expnP; rw [hk]; rfl
    rw [e4] at h
    simp only [cond_false, e5] at h
    exact nn_37 h
  · have e4 : statP d.kind = false := by rw [hk]; rfl
    have e5 : expnP pd d = expn40 pd d := by unfold expnP; rw [hk]; rfl
    rw [e4] at h
    simp only [cond_false, e5] at h
    exact nn_40 h
  · have e4 : statP d.kind = false := by rw [hk]; rfl
    have e5 : expnP pd d = expn41 pd d := by unfold expnP; rw [hk]; rfl
    rw [e4] at h
    simp only [cond_false, e5] at h
    exact nn_41 h
  · have e4 : statP d.kind = false := by rw [hk]; rfl
    have e5 : expnP pd d = expn42 pd d := by unfold expnP; rw [hk]; rfl
    rw [e4] at h
    simp only [cond_false, e5] at h
    exact nn_42 h
  · obtain ⟨e1, e2, e3, e4, e5, e6, e16, e7, e8, e9, e10, e11, e12, e13, e14, e15, e20, e21, e22, e23, e24, e25, e26, e27, e28, e29, e30, e31, e32, e33, e34, e35, e36, e37, e40, e41, e42⟩ := h3
    have f4 : statP d.kind = false := by
      rw [← Bool.not_eq_true]; simp [statP]; omega
    have f5 : expnP pd d = false := by unfold expnP; rw [if_neg e20, if_neg e21, if_neg e22, if_neg e23, if_neg e24, if_neg e25, if_neg e26, if_neg e27, if_neg e28, if_neg e29, if_neg e30, if_neg e31, if_neg e32, if_neg e33, if_neg e34, if_neg e35, if_neg e36, if_neg e37, if_neg e40, if_neg e41, if_neg e42]
    rw [f4, f5] at h
    simp at h
theorem slim_of {pd : Nat → PD} {d : PD} {i : Nat} (h : nodeP pd d i = true) : slimP d := by
  unfold nodeP at h
  simp only [Bool.and_eq_true, decide_eq_true_eq] at h
  exact ⟨h.2.2.2.2.1, shape_nn h.2.2.2.2.2.2.2⟩
theorem place_eq {d : PD} (hs : slimP d) (x : Bool) : (placeP d && x) = (decide (0 ≤ d.frm) && (decide (d.frm ≤ d.tto) && (decide (0 ≤ d.line) && (decide (d.line ≤ 100000) && (decide (d.nk ≤ 200) && (!(statP d.kind && d.line == 0) && x)))))) := by
  have h1 := hs.1
  unfold placeP leastP
  rw [if_pos hs, decide_eq_true h1]
  cases hst : statP d.kind
  · simp only [Bool.false_eq_true, if_false, Bool.false_and, Bool.not_false, Bool.true_and, Bool.and_assoc]
  · simp only [if_true, Bool.true_and]
    have : decide (1 ≤ d.line) = (decide (0 ≤ d.line) && !(d.line == 0)) := by
      by_cases e : 1 ≤ d.line
      · rw [decide_eq_true e, decide_eq_true (show 0 ≤ d.line by omega), beq_false_of_ne (show d.line ≠ 0 by omega)]; rfl
      · rw [decide_eq_false e]
        by_cases e2 : 0 ≤ d.line
        · rw [decide_eq_true e2, beq_iff_eq.mpr (show d.line = 0 by omega)]; rfl
        · rw [decide_eq_false e2]; rfl
    rw [this]
    generalize decide (0 ≤ d.frm) = a1
    generalize decide (d.frm ≤ d.tto) = a2
    generalize decide (0 ≤ d.line) = a3
    generalize (d.line == 0) = a4
    generalize decide (d.line ≤ 100000) = a5
    revert a1 a2 a3 a4 a5 x
    decide
theorem rowI_eq (pm : Nat → PM) (pk : Nat → Option Addr) (i : Nat) (hs : ∀ j, j < i → slimP (pm j).toPD) : rowI pm pk i = nodeP (pdOf pm) (pdOf pm i) i := by
  by_cases h : slimP (pm i).toPD
  · have hkn : knP (pm i).toPD = (pm i).nk := by unfold knP; rw [if_pos h]
    unfold rowI stB exB enB
    rw [if_pos h, if_pos h, if_pos h, hkn, shape_eq (kin_of pm pk (pm i).toPD i hs) h, place_eq h]
    rfl
  · have e : rowI pm pk i = false := by
      unfold rowI stB exB enB
      rw [if_neg h, if_neg h, if_neg h]; simp
    rw [e]
    symm
    rw [← Bool.not_eq_true]
    exact fun h2 => h (slim_of h2)
theorem firstBad_congr {f g : Nat → Bool} : ∀ n i, (∀ k, i ≤ k → k < i + n → (∀ j, i ≤ j → j < k → g j = true) → f k = g k) → firstBad f i n = firstBad g i n
  | 0, _, _ => rfl
  | n + 1, i, h => by
    simp only [firstBad]
    have e := h i (Nat.le_refl _) (by omega) (fun j h1 h2 => by omega)
    rw [e]
    cases hg : g i
    · rfl
    · simp only [cond_true]
      exact firstBad_congr n (i + 1) fun k h1 h2 h3 => h k (by omega) (by omega) fun j h4 h5 => by
        by_cases e : j = i
        · rw [e]; exact hg
        · exact h3 j (by omega) h5
theorem firstBad_none {f : Nat → Bool} : ∀ n i, firstBad f i n = none → ∀ k, i ≤ k → k < i + n → f k = true
  | 0, _, _, k, h1, h2 => by omega
  | n + 1, i, h, k, h1, h2 => by
    simp only [firstBad] at h
    cases hf : f i
    · rw [hf] at h; simp at h
    · rw [hf] at h
      simp only [cond_true] at h
      by_cases e : k = i
      · rw [e]; exact hf
      · exact firstBad_none n (i + 1) h k (by omega) (by omega)
theorem rows_eq (pm : Nat → PM) (pk : Nat → Option Addr) (np : Nat) : firstBad (rowI pm pk) 0 np = firstBad (fun i => nodeP (pdOf pm) (pdOf pm i) i) 0 np :=
  firstBad_congr np 0 fun k _ _ h => rowI_eq pm pk k fun j hj => slim_of (h j (Nat.zero_le _) hj)

theorem sizesN_stable (pd : Nat → PD) {k : Nat} : ∀ i, k < i → sizesN pd i k = sizesN pd (k + 1) k
  | 0, h => by omega
  | i + 1, h => by
    by_cases e : k = i
    · subst e; rfl
    · show (if k = i then _ else sizesN pd i k) = _
      rw [if_neg e]; exact sizesN_stable pd i (by omega)
theorem begN_stable (pd : Nat → PD) {k : Nat} : ∀ i, k < i → begN pd i k = begN pd (k + 1) k
  | 0, h => by omega
  | i + 1, h => by
    by_cases e : k = i
    · subst e; rfl
    · show (if k = i then _ else begN pd i k) = _
      rw [if_neg e]; exact begN_stable pd i (by omega)
theorem down_eq {S B kd : Nat → Int} {i : Nat} (hSB : ∀ k, k < i → S k = k + 1 - B k) (hB : ∀ k : Nat, 0 ≤ B k ∧ B k ≤ k) : ∀ (j : Nat) (a : Int), (∀ q, q < j → 0 ≤ kd q ∧ kd q < i) → downS S kd j a = downB B kd j a
  | 0, _, _ => rfl
  | j + 1, a, hk => by
    obtain ⟨k0, k1⟩ := hk j (by omega)
    have e1 := hSB (kd j).toNat (by omega)
    have e2 := hB (kd j).toNat
    unfold downS downB
    have z : (S (kd j).toNat == 0) = false := beq_false_of_ne (by omega)
    rw [z]
    cases hc : (kd j == a - 1)
    · rfl
    · simp only [Bool.not_false, Bool.and_true, cond_true]
      simp only [beq_iff_eq] at hc
      rw [show a - S (kd j).toNat = B (kd j).toNat by omega]
      exact down_eq hSB hB j _ fun q hq => hk q (by omega)
theorem size_beg {pd : Nat → PD} {np : Nat} (hks : ∀ i, i < np → ∀ j, j < (pd i).nk → 0 ≤ (pd i).kd j ∧ (pd i).kd j < i) : ∀ i, i ≤ np → (∀ j, j < i → okB pd j = true) → ∀ k, k < i → sizesN pd i k = k + 1 - begN pd i k
  | 0, _, _, k, hk => by omega
  | i + 1, hi, hok, k, hk => by
    have ih := size_beg hks i (by omega) (fun j hj => hok j (by omega))
    have hB := begN_le (pd := pd) (np := np) (fun i hi j hj => (hks i hi j hj).1) i (by omega)
    show (if k = i then _ else sizesN pd i k) = k + 1 - (if k = i then _ else begN pd i k)
    by_cases e : k = i
    · rw [if_pos e, if_pos e, down_eq ih hB _ _ (hks i (by omega))]
      have h1 := hok i (by omega)
      unfold okB at h1
      cases hd : downB (begN pd i) (pd i).kd (pd i).nk i
      · rw [hd] at h1; simp at h1
      · simp only [fromDown, Option.getD_some]; omega
    · rw [if_neg e, if_neg e]; exact ih k (by omega)
theorem ok_size {pd : Nat → PD} {np : Nat} (hks : ∀ i, i < np → ∀ j, j < (pd i).nk → 0 ≤ (pd i).kd j ∧ (pd i).kd j < i) {k : Nat} (hk : k < np) (hok : ∀ j, j < k → okB pd j = true) : (!(sizesN pd np k == 0)) = okB pd k := by
  have ih := size_beg hks k (by omega) hok
  have hB := begN_le (pd := pd) (np := np) (fun i hi j hj => (hks i hi j hj).1) k (by omega)
  rw [sizesN_stable pd np hk]
  have e : sizesN pd (k + 1) k = fromDown k (downS (sizesN pd k) (pd k).kd (pd k).nk k) := by
    show (if k = k then _ else _) = _
    rw [if_pos rfl]
  rw [e, down_eq ih hB _ _ (hks k hk)]
  unfold okB
  cases hd : downB (begN pd k) (pd k).kd (pd k).nk k with
  | none => rfl
  | some r =>
    have := downB_le hB _ _ _ (fun q hq => (hks k hk q hq).1) (by omega) hd
    simp only [fromDown, Option.isSome_some, Bool.not_eq_true']
    exact beq_false_of_ne (by omega)
theorem order_eq {pd : Nat → PD} {l : Nat} (hks : ∀ i, i < l + 1 → ∀ j, j < (pd i).nk → 0 ≤ (pd i).kd j ∧ (pd i).kd j < i) (R : Int × Int) :
    after 3 (firstBad (fun i => !(sizesN pd (l + 1) i == 0)) 0 (l + 1)) (bif sizesN pd (l + 1) (l + 1 - 1) == ((l + 1 : Nat) : Int) then R else (3, ((l + 1 : Nat) : Int) - 1)) = after 3 (orderI pd (l + 1)) R := by
  rw [firstBad_congr (g := okB pd) (l + 1) 0 fun k _ h2 h3 => ok_size hks (by omega) fun j hj => h3 j (Nat.zero_le _) hj]
  unfold orderI
  cases hf : firstBad (okB pd) 0 (l + 1) with
  | some n => rfl
  | none =>
    have hok := firstBad_none _ _ hf
    have hs := size_beg hks (l + 1) (Nat.le_refl _) (fun j hj => hok j (Nat.zero_le _) (by omega)) l (by omega)
    rw [show l + 1 - 1 = l by omega, hs]
    simp only [after]
    by_cases e : begN pd (l + 1) l = 0
    · rw [beq_iff_eq.mpr (show (l : Int) + 1 - begN pd (l + 1) l = ((l + 1 : Nat) : Int) by omega), beq_iff_eq.mpr e]; rfl
    · rw [beq_false_of_ne (show (l : Int) + 1 - begN pd (l + 1) l ≠ ((l + 1 : Nat) : Int) by omega), beq_false_of_ne e]
      simp only [cond_false]
      rw [show ((l + 1 : Nat) : Int) - 1 = (l : Int) by omega]
end Go.Proofs.Ytnokgdgikdgaeaa

namespace Go.Proofs.Ytnokgdgikdgaeaa
open Go.RowKit
attribute [local go_sem] run_store_float

def textB (pd : Nat → PD) (np : Nat) : Bool := decide (0 < np) && (decide (np ≤ 3000) && ((pd (np - 1)).kind == 1))

set_option maxRecDepth 100000 in
set_option maxHeartbeats 1000000 in
theorem textFits_any (np : Nat) (pm : Nat → PM) (pa : Option Addr) (pc : Nat) (w : World) (hn : np ≤ 1048576) (ha : PartsAt w pa np pm) :
    Calls Try.prog 14 #[.slice pa np pc] w fun e w' => e = .returned (.bool (textB (pdOf pm) np)) ∧ Onw w w' := by
  by_cases h0 : 0 < np
  · obtain ⟨l, rfl⟩ : ∃ l, np = l + 1 := ⟨np - 1, by omega⟩
    have d0 : decide ((1 : Int) ≤ (l : Int) + 1) = true := decide_eq_true (by omega)
    by_cases h1 : l + 1 ≤ 3000
    · have d1 : decide ((l : Int) + 1 ≤ 3000) = true := decide_eq_true (by omega)
      obtain ⟨b, off, rfl, hc⟩ := ha.1 h0
      have p0 := (hc l (by omega)).c0
      clear hc ha
      have fin : Hid (textB (pdOf pm) (l + 1) = ((pm l).kind == 1)) := by
        show _ = _
        unfold textB; rw [decide_eq_true h0, decide_eq_true h1]; rfl
      have i0 : (0 : Int) ≤ (l : Int) := by omega
      have i1 : (l : Int) < (l : Int) + 1 := by omega
      clear h0 h1
      go_enter Try.func14, Try.ntmps14
      go_wp2_with fail
      go_ret
      exact ⟨ret_bool fin.out.symm, Onw.refl _⟩
    · have d1 : decide ((l : Int) + 1 ≤ 3000) = false := decide_eq_false (by omega)
      have fin : Hid (textB (pdOf pm) (l + 1) = false) := by
        show _ = _
        unfold textB; rw [decide_eq_false h1]; simp
      clear h0 h1
      go_enter Try.func14, Try.ntmps14
      go_wp2_with fail
      go_ret
      exact ⟨ret_bool fin.out.symm, Onw.refl _⟩
  · obtain rfl : np = 0 := by omega
    have fin : Hid (textB (pdOf pm) 0 = false) := rfl
    go_enter Try.func14, Try.ntmps14
    go_wp2_with fail
    go_ret
    exact ⟨ret_bool fin.out.symm, Onw.refl _⟩

theorem specTree_any (t : TM) (w : World) (hn : t.np ≤ 1048576) (hs : ∀ i, i < t.np → (t.pm i).Slight) (ht : t.At w) :
    Calls Try.prog 5 #[.agg #[.slice t.pa t.np t.pc]] w fun e w' => e = .returned (.agg #[.int .i64 (specT (pdOf t.pm) t.np).1, .int .i64 (specT (pdOf t.pm) t.np).2]) ∧ Onw w w' := by
  obtain ⟨np, pm, pa, pc⟩ := t
  simp only at *
  cases hb : (decide (0 < np) && (decide (np ≤ 3000) && (((pdOf pm) (np - 1)).kind == 1)))
  · refine (specTree_bad ⟨np, pm, pa, pc⟩ w hn ht hb).mono ?_
    rintro e w' ⟨rfl, o⟩
    have : specT (pdOf pm) np = (1, 0) := by unfold specT; rw [hb]; rfl
    exact ⟨by rw [this], o⟩
  · simp only [Bool.and_eq_true, decide_eq_true_eq, beq_iff_eq] at hb
    obtain ⟨l, rfl⟩ : ∃ l, np = l + 1 := ⟨np - 1, by omega⟩
    exact specTree_good l pm pa pc w hb.2.1 hb.2.2 hs ht

set_option maxRecDepth 100000 in
set_option maxHeartbeats 2000000 in
theorem implTree_any (t : TM) (w : World) (hn : t.np ≤ 1048576) (hs : ∀ i, i < t.np → (t.pm i).Slight) (ht : t.At w) :
    Calls Try.prog 7 #[.agg #[.slice t.pa t.np t.pc]] w fun e w' => e = .returned (.agg #[.int .i64 (specT (pdOf t.pm) t.np).1, .int .i64 (specT (pdOf t.pm) t.np).2]) ∧ Onw w w' := by
  obtain ⟨np, pm, pa, pc⟩ := t
  simp only at *
  have HS : Hid _ := hs
  have HT : Hid _ := ht
  clear hs ht
  have T0 := (Blk.new w 31 #[.slice pa np pc]).onw (Onw.alloc (w.alloc (Obj.cells #[.slice pa np pc] 31)) (Obj.cells #[.int .i64 0, .int .i64 0] 27))
  have R0 := Blk.new (w.alloc (Obj.cells #[.slice pa np pc] 31)) 27 #[.int .i64 0, .int .i64 0]
  have O := (Onw.alloc w (Obj.cells #[.slice pa np pc] 31)).trans (Onw.alloc _ (Obj.cells #[.int .i64 0, .int .i64 0] 27))
  simp only [World.size_alloc] at R0
  go_enter Try.func7, Try.ntmps7
  go_wp2_with fail
  refine (textFits_any np pm pa pc _ hn (PartsAt.onw O HT.out)).mono ?_
  rintro e w1 ⟨rfl, b1⟩
  replace T0 := T0.onw b1
  replace R0 := R0.onw b1
  replace O := O.trans b1
  clear b1
  have x0 : w1.cell? ⟨w.heap.size, 0, none⟩ = some (.slice pa np pc) := by rw [T0.cell]; rfl
  cases hb : textB (pdOf pm) np
  · have fin : Hid (specT (pdOf pm) np = (1, 0)) := by show _ = _; unfold specT; rw [show (decide (0 < np) && (decide (np ≤ 3000) && ((pdOf pm (np - 1)).kind == 1))) = false from hb]; rfl
    have f2 := R0.free
    have y0 : w1.cell? ⟨w.heap.size + 1, 0, none⟩ = some (.int .i64 0) := by rw [R0.cell]; rfl
    have y1 : w1.cell? ⟨w.heap.size + 1, 1, none⟩ = some (.int .i64 0) := by rw [R0.cell]; rfl
    go_wp2_with fail
    exact bodyPost_ret (v := .agg #[.int .i64 1, .int .i64 0]) (by simp [results, Try.results7, go_sem, y0, y1]) rfl ⟨ret_wrong fin.out, by first | exact O | exact below_set (below_set O (by omega) _) (by omega) _ | exact below_set O (by omega) _⟩
  · have hb' := hb
    simp only [textB, Bool.and_eq_true, decide_eq_true_eq, beq_iff_eq] at hb'
    obtain ⟨l, rfl⟩ : ∃ l, np = l + 1 := ⟨np - 1, by omega⟩
    have fin : Hid (specT (pdOf pm) (l + 1) = after 2 (firstBad (fun i => nodeP (pdOf pm) (pdOf pm i) i) 0 (l + 1)) (after 3 (firstBad (fun i => !(sizesN (pdOf pm) (l + 1) i == 0)) 0 (l + 1))
      (bif sizesN (pdOf pm) (l + 1) (l + 1 - 1) == ((l + 1 : Nat) : Int) then after 4 (firstBad (fun i => decide (depD (pdOf pm) (l + 1) (l + 1) i ≤ 100)) 0 (l + 1)) (0, 0) else (3, ((l + 1 : Nat) : Int) - 1)))) := by
      show _ = _
      unfold specT
      rw [show (decide (0 < l + 1) && (decide (l + 1 ≤ 3000) && ((pdOf pm (l + 1 - 1)).kind == 1))) = true from hb]; rfl
    clear hb hb'
    go_wp2_with fail
    refine (piecesOf_any (l + 1) pm pa pc _ hn (PartsAt.onw O HT.out)).mono ?_
    rintro e w2 ⟨ab, pk, rfl, b2, hP⟩
    have HP : Hid _ := hP
    replace O := O.trans b2
    replace R0 := R0.onw b2
    clear b2 T0 x0 hP
    go_wp2_with fail
    refine (firstOffRow_any (l + 1) _ ab pm pk pa _ hn HS.out (PartsAt.onw O HT.out) HP.out).mono ?_
    rintro e w3 ⟨rfl, b3⟩
    have HP3 : Hid _ := PiecesAt.onw b3 HP.out
    replace O := O.trans b3
    replace R0 := R0.onw b3
    rw [rows_eq]
    clear HP b3
    cases h1 : firstBad (fun i => nodeP (pdOf pm) (pdOf pm i) i) 0 (l + 1) with
    | some n =>
      have F1 : Hid _ := h1
      clear h1
      have v1 : optI (some n) = (n : Int) := rfl
      have v2 : ((n : Int) != -1) = true := by simp only [bne_iff_ne, ne_eq]; omega
      rw [v1]
      have f2 := R0.free
      have y0 : w3.cell? ⟨w.heap.size + 1, 0, none⟩ = some (.int .i64 0) := by rw [R0.cell]; rfl
      have y1 : w3.cell? ⟨w.heap.size + 1, 1, none⟩ = some (.int .i64 0) := by rw [R0.cell]; rfl
      go_wp2_with fail
      exact bodyPost_ret (v := .agg #[.int .i64 2, .int .i64 n]) (by simp [results, Try.results7, go_sem, y0, y1]) rfl ⟨ret_wrong (by rw [fin.out, F1.out]; rfl), by first | exact O | exact below_set (below_set O (by omega) _) (by omega) _ | exact below_set O (by omega) _⟩
    | none =>
      have F1 : Hid _ := h1
      have hok := firstBad_none _ _ h1
      have hsl : ∀ i, i < l + 1 → slimP (pm i).toPD := fun i hi => slim_of (hok i (Nat.zero_le _) (by omega))
      have hks : ∀ i, i < l + 1 → ∀ j, j < (pm i).nk → 0 ≤ (pm i).kd j ∧ (pm i).kd j < i := fun i hi => nodeP_kids (hok i (Nat.zero_le _) (by omega))
      have HSL : Hid _ := hsl
      have HKS : Hid _ := hks
      have fin2 : Hid (specT (pdOf pm) (l + 1) = after 3 (orderI (pdOf pm) (l + 1)) (after 4 (firstBad (fun i => decide (depD (pdOf pm) (l + 1) (l + 1) i ≤ 100)) 0 (l + 1)) (0, 0))) := by
        show _ = _
        rw [fin.out, F1.out]
        exact order_eq hks _
      clear h1 hok hsl hks fin F1
      have v1 : optI none = -1 := rfl
      rw [v1]
      go_wp2_with fail
      refine (firstOutOfOrder_any l _ ab pm pk _ hn HSL.out HKS.out HP3.out).mono ?_
      rintro e w4 ⟨rfl, b4⟩
      have HP4 : Hid _ := PiecesAt.onw b4 HP3.out
      replace O := O.trans b4
      replace R0 := R0.onw b4
      clear HP3 b4 v1
      cases h1 : orderI (pdOf pm) (l + 1) with
      | some n =>
        have F1 : Hid _ := h1
        clear h1
        have v1 : optI (some n) = (n : Int) := rfl
        have v2 : ((n : Int) != -1) = true := by simp only [bne_iff_ne, ne_eq]; omega
        rw [v1]
        have f2 := R0.free
        have y0 : w4.cell? ⟨w.heap.size + 1, 0, none⟩ = some (.int .i64 0) := by rw [R0.cell]; rfl
        have y1 : w4.cell? ⟨w.heap.size + 1, 1, none⟩ = some (.int .i64 0) := by rw [R0.cell]; rfl
        go_wp2_with fail
        exact bodyPost_ret (v := .agg #[.int .i64 3, .int .i64 n]) (by simp [results, Try.results7, go_sem, y0, y1]) rfl ⟨ret_wrong (by rw [fin2.out, F1.out]; rfl), by first | exact O | exact below_set (below_set O (by omega) _) (by omega) _ | exact below_set O (by omega) _⟩
      | none =>
        have F1 : Hid _ := h1
        clear h1
        have v1 : optI none = -1 := rfl
        rw [v1]
        go_wp2_with fail
        refine (firstTooDeep_any l _ ab pm pk _ hn HSL.out HKS.out HP4.out).mono ?_
        rintro e w5 ⟨rfl, b5⟩
        replace O := O.trans b5
        replace R0 := R0.onw b5
        clear b5 v1
        cases h1 : firstBad (fun i => decide (depD (pdOf pm) (l + 1) (l + 1) i ≤ 100)) 0 (l + 1) with
        | some n =>
          have F2 : Hid _ := h1
          clear h1
          have v1 : optI (some n) = (n : Int) := rfl
          have v2 : ((n : Int) != -1) = true := by simp only [bne_iff_ne, ne_eq]; omega
          rw [v1]
          have f2 := R0.free
          have y0 : w5.cell? ⟨w.heap.size + 1, 0, none⟩ = some (.int .i64 0) := by rw [R0.cell]; rfl
          have y1 : w5.cell? ⟨w.heap.size + 1, 1, none⟩ = some (.int .i64 0) := by rw [R0.cell]; rfl
          go_wp2_with fail
          exact bodyPost_ret (v := .agg #[.int .i64 4, .int .i64 n]) (by simp [results, Try.results7, go_sem, y0, y1]) rfl ⟨ret_wrong (by rw [fin2.out, F1.out, F2.out]; rfl), by first | exact O | exact below_set (below_set O (by omega) _) (by omega) _ | exact below_set O (by omega) _⟩
        | none =>
          have F2 : Hid _ := h1
          clear h1
          have v1 : optI none = -1 := rfl
          rw [v1]
          have f2 := R0.free
          have y0 : w5.cell? ⟨w.heap.size + 1, 0, none⟩ = some (.int .i64 0) := by rw [R0.cell]; rfl
          have y1 : w5.cell? ⟨w.heap.size + 1, 1, none⟩ = some (.int .i64 0) := by rw [R0.cell]; rfl
          go_wp2_with fail
          exact bodyPost_ret (v := .agg #[.int .i64 0, .int .i64 0]) (by simp [results, Try.results7, go_sem, y0, y1]) rfl ⟨ret_wrong (by rw [fin2.out, F1.out, F2.out]; rfl), by first | exact O | exact below_set (below_set O (by omega) _) (by omega) _ | exact below_set O (by omega) _⟩
end Go.Proofs.Ytnokgdgikdgaeaa

namespace Go.Proofs.Ytnokgdgikdgaeaa
open Go.RowKit
attribute [local go_sem] run_store_float


set_option maxHeartbeats 400000 in
theorem eqWrong_same (i j : Int) (w : World) :
    Calls Try.prog 8 #[.agg #[.int .i64 i, .int .i64 j], .agg #[.int .i64 i, .int .i64 j]] w fun e w' => e = .returned (.bool true) ∧ Onw w w' := by
  go_enter Try.func8, Try.ntmps8
  go_wp2
  go_ret
  exact ⟨rfl, (Onw.alloc _ _).trans (Onw.alloc _ _)⟩
end Go.Proofs.Ytnokgdgikdgaeaa

namespace Go.Proofs.Ytnokgdgikdgaeaa
open Go.RowKit
attribute [local go_sem] run_store_float

theorem sum_ge (f : Nat → Nat) : ∀ (n i : Nat), i < n → f i ≤ sumTo f n
  | 0, _, h => by omega
  | n + 1, i, h => by
    simp only [sumTo]
    by_cases e : i = n
    · subst e; omega
    · have := sum_ge f n i (by omega); omega
theorem slight_of {m : PM} (h : m.sz ≤ 1048576) : m.Slight := by
  unfold PM.sz at h
  refine ⟨by omega, by omega, by omega, fun i hi => ?_⟩
  have : (m.nm i).size ≤ sumTo (fun i => (m.nm i).size) m.nn := sum_ge (fun i => (m.nm i).size) m.nn i hi
  omega
theorem sz_slight {t : TM} (h : t.sz ≤ 1048576) : t.np ≤ 1048576 ∧ ∀ i, i < t.np → (t.pm i).Slight := by
  unfold TM.sz at h
  refine ⟨by omega, fun i hi => slight_of ?_⟩
  have : (t.pm i).sz ≤ sumTo (fun i => (t.pm i).sz) t.np := sum_ge (fun i => (t.pm i).sz) t.np i hi
  omega
theorem td_pm {m m' : TM} (h : m'.toTD = m.toTD) : m'.np = m.np ∧ ∀ i, (m'.pm i).toPD = (m.pm i).toPD := by
  have h1 := congrArg TD.np h
  have h2 := congrArg TD.pt h
  exact ⟨h1, fun i => congrFun h2 i⟩
theorem td_pd {m m' : TM} (h : m'.toTD = m.toTD) : pdOf m'.pm = pdOf m.pm := funext (td_pm h).2
theorem slight_td {m m' : TM} (h : m'.toTD = m.toTD) (hs : ∀ i, i < m.np → (m.pm i).Slight) : ∀ i, i < m'.np → (m'.pm i).Slight := by
  obtain ⟨h1, h2⟩ := td_pm h
  intro i hi
  have := hs i (by omega)
  unfold PM.Slight at this ⊢
  rw [h2 i]; exact this
theorem small_of_slight {t : TM} (hs : ∀ i, i < t.np → (t.pm i).Slight) : ∀ i, i < t.np → (t.pm i).Small := fun i hi => ⟨(hs i hi).2.1, (hs i hi).1⟩

set_option maxRecDepth 100000 in
set_option maxHeartbeats 4000000 in
theorem law_any (t : TM) (w : World) (hn : t.np ≤ 140737488351232) (hs : ∀ i, i < t.np → (t.pm i).Reach) (ha : t.At w) :
    Calls Try.prog 3 #[.agg #[.slice t.pa t.np t.pc]] w fun e w' => e = .returned (.bool true) ∧ Onw w w' := by
  have HS : Hid _ := hs
  have HA : Hid _ := ha
  clear hs ha
  have N0 := Blk.new w 24 #[.slice t.pa t.np t.pc]
  have O0 := Onw.alloc w (Obj.cells #[.slice t.pa t.np t.pc] 24)
  go_enter Try.func3, Try.ntmps3
  go_wp2_with fail
  refine (szTree_any t 1048576 _ (by omega) (by omega) hn HS.out (TM.At.onw O0 HA.out)).mono ?_
  rintro e w1 ⟨r, rfl, O1, (rfl | ⟨p1, q1⟩)⟩
  · go_wp2_with fail
    go_ret
    exact ⟨rfl, O0.trans O1⟩
  · have B1 := N0.onw O1
    have o1 := O0.trans O1
    have hsz : t.sz ≤ 1048576 := by omega
    obtain ⟨s1, s2⟩ := sz_slight hsz
    have S2 : Hid _ := s2
    have p1' : ¬ r < 0 := by omega
    clear q1 hsz s2 N0 O0 O1
    have b1 := B1.cell
    obtain ⟨i, hi⟩ : ∃ i, (specT (pdOf t.pm) t.np).1 = i := ⟨_, rfl⟩
    obtain ⟨j, hj⟩ : ∃ j, (specT (pdOf t.pm) t.np).2 = j := ⟨_, rfl⟩
    have HI : Hid _ := hi
    have HJ : Hid _ := hj
    clear hi hj
    go_wp2_with fail
    refine (toTree_any t _ s1 (small_of_slight S2.out) (TM.At.onw o1 HA.out)).mono ?_
    rintro e w2 ⟨u2, rfl, O2, a2, e2, n2, g2, c2⟩
    have o2 := o1.trans O2
    have B2 := B1.onw O2
    have E2 : Hid _ := e2
    have N2 : Hid _ := n2
    clear e2 n2 g2 c2 B1 b1 o1 O2
    go_wp2_with fail
    refine (specTree_any u2 _ (by have := N2.out; omega) (slight_td E2.out S2.out) a2).mono ?_
    rintro e w3 ⟨rfl, O3⟩
    rw [td_pd E2.out, N2.out, HI.out, HJ.out]
    have o3 := o2.trans O3
    have B3 := B2.onw O3
    clear B2 o2 O3 a2 E2 N2
    have b3 := B3.cell
    have z3 := B3.lt
    go_wp2_with fail
    have O4 := Onw.alloc w3 (Obj.cells #[.int .i64 i, .int .i64 j] 27)
    have BF := Blk.new w3 27 #[.int .i64 i, .int .i64 j]
    have o4 := o3.trans O4
    have B4 := B3.onw O4
    clear b3 B3 o3 O4
    generalize w3.alloc (Obj.cells #[.int .i64 i, .int .i64 j] 27) = w4 at *
    refine (toTree_any t _ s1 (small_of_slight S2.out) (TM.At.onw o4 HA.out)).mono ?_
    rintro e w5 ⟨u5, rfl, O5, a5, e5, n5, g5, c5⟩
    have o5 := o4.trans O5
    have B5 := B4.onw O5
    have BF5 := BF.onw O5
    have E5 : Hid _ := e5
    have N5 : Hid _ := n5
    clear e5 n5 g5 c5 B4 o4 O5 BF
    go_wp2_with fail
    have O6 := Onw.alloc w5 (Obj.cells #[.slice u5.pa u5.np u5.pc] 31)
    have BX := Blk.new w5 31 #[.slice u5.pa u5.np u5.pc]
    have o6 := o5.trans O6
    have B6 := B5.onw O6
    have BF6 := BF5.onw O6
    have a6 := TM.At.onw O6 a5
    clear B5 BF5 o5 O6 a5
    generalize w5.alloc (Obj.cells #[.slice u5.pa u5.np u5.pc] 31) = w6 at *
    refine (implTree_any u5 _ (by have := N5.out; omega) (slight_td E5.out S2.out) a6).mono ?_
    rintro e w7 ⟨rfl, O7⟩
    rw [td_pd E5.out, N5.out, HI.out, HJ.out]
    have o7 := o6.trans O7
    have B7 := B6.onw O7
    have BF7 := BF6.onw O7
    have BX7 := BX.onw O7
    have a7 := TM.At.onw O7 a6
    clear B6 BF6 BX o6 O7 a6
    have bf := BF7.cell
    have zf := BF7.lt
    go_wp2_with fail
    have O8 := Onw.alloc w7 (Obj.cells #[.int .i64 i, .int .i64 j] 27)
    have o8 := o7.trans O8
    have B8 := B7.onw O8
    have BX8 := BX7.onw O8
    have a8 := TM.At.onw O8 a7
    clear bf BF7 B7 BX7 o7 O8 a7
    generalize w7.alloc (Obj.cells #[.int .i64 i, .int .i64 j] 27) = w8 at *
    refine (eqWrong_same i j _).mono ?_
    rintro e w9 ⟨rfl, O9⟩
    have o9 := o8.trans O9
    have B9 := B8.onw O9
    have BX9 := BX8.onw O9
    have a9 := TM.At.onw O9 a8
    clear B8 BX8 o8 O9 a8
    have x0 : w9.cell? ⟨w5.heap.size, 0, none⟩ = some (.slice u5.pa u5.np u5.pc) := by rw [BX9.cell]; rfl
    have y0 : w9.cell? ⟨w.heap.size, 0, none⟩ = some (.slice t.pa t.np t.pc) := by rw [B9.cell]; rfl
    go_wp2_with fail
    go_region_held3 (fun w' => w'.cell? ⟨w5.heap.size, 0, none⟩ = some (.slice u5.pa u5.np u5.pc) ∧ w'.cell? ⟨w.heap.size, 0, none⟩ = some (.slice t.pa t.np t.pc)) (go_keep)
      (first
        | (go_at_call 6; refine (toTree_any t _ s1 (small_of_slight S2.out) (TM.At.onw (o9.trans (Below.drew (Onw.refl _))) HA.out)).mono ?_; rintro e w10 ⟨u10, rfl, O10, a10, e10, n10, g10, c10⟩; have E10 : Hid _ := e10; clear e10 n10 g10 c10; have o10 := (show Onw w9 w10 from Onw.trans (Below.drew (Onw.refl _)) O10); have q1 := cell_onw o10 x0; have q2 := cell_onw o10 y0)
        | (go_at_call 9; refine (eqTree_same u5 u10 _ (by have := N5.out; omega) (small_of_slight (slight_td E5.out S2.out)) (E10.out.trans E5.out.symm) (TM.At.onw o10 a9) a10).mono ?_; rintro e w11 ⟨rfl, O11⟩; have r1 := cell_onw O11 q1; have r2 := cell_onw O11 q2))
    go_wp2_with fail
    go_ret
    exact ⟨rfl, (o9.trans o10).trans O11⟩
end Go.Proofs.Ytnokgdgikdgaeaa
