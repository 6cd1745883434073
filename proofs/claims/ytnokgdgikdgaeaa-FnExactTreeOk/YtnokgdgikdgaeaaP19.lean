import Derived.Test.YtnokgdgikdgaeaaP18
namespace Go.Proofs.Ytnokgdgikdgaeaa
open Go.RowKit

theorem exprs1 (pd : Nat → PD) (d : PD) : exprsP pd d 0 1 = exprP (kidP pd d 0) := by simp [exprsP, allB]
theorem exprs2 (pd : Nat → PD) (d : PD) : exprsP pd d 0 2 = (exprP (kidP pd d 0) && exprP (kidP pd d 1)) := by simp [exprsP, allB]
theorem exprs3 (pd : Nat → PD) (d : PD) : exprsP pd d 0 3 = (exprP (kidP pd d 0) && (exprP (kidP pd d 1) && exprP (kidP pd d 2))) := by simp [exprsP, allB]
theorem exprsN (pd : Nat → PD) (d : PD) : exprsP pd d 0 d.nk = allB (fun j => exprP (kidP pd d j)) 0 d.nk := rfl
theorem row_1 {pd : Nat → PD} {d : PD} {i : Nat} {q : Nat → Option PX} (h : Kin pd d i q) (hs : slimP d) : (usesP d false false false false false && (standR 1 d.nk q)) = (kidsIn d i && stmt1 pd d) := by
  have h1 := hs.1
  have h2 := hs.2
  rw [uses_bare, stand_eq1 h, kidsIn_eq]
  unfold stmt1
  grind [exprs1, exprs2, exprs3, exprsN, cls1, cls2, cls4, cls8, cls16, cls32, cls64, cls128, cls256, cls512, allB, namedP]
theorem row_2 {pd : Nat → PD} {d : PD} {i : Nat} {q : Nat → Option PX} (h : Kin pd d i q) (hs : slimP d) : (declP d 1 200 && (standR 8 d.nk q)) = (kidsIn d i && stmt2 pd d) := by
  have h1 := hs.1
  have h2 := hs.2
  rw [decl_eq, stand_eq8 h, kidsIn_eq]
  unfold stmt2
  grind [exprs1, exprs2, exprs3, exprsN, cls1, cls2, cls4, cls8, cls16, cls32, cls64, cls128, cls256, cls512, allB, namedP]
theorem row_3 {pd : Nat → PD} {d : PD} {i : Nat} {q : Nat → Option PX} (h : Kin pd d i q) (hs : slimP d) : (declP d 1 1 && (kidsR [8] d.nk q)) = (kidsIn d i && stmt3 pd d) := by
  have h1 := hs.1
  have h2 := hs.2
  rw [decl_eq, kids_8 h, kidsIn_eq]
  unfold stmt3
  grind [exprs1, exprs2, exprs3, exprsN, cls1, cls2, cls4, cls8, cls16, cls32, cls64, cls128, cls256, cls512, allB, namedP]
theorem row_4 {pd : Nat → PD} {d : PD} {i : Nat} {q : Nat → Option PX} (h : Kin pd d i q) (hs : slimP d) : (declP d 1 1 && (kidsR [256] d.nk q)) = (kidsIn d i && stmt4 pd d) := by
  have h1 := hs.1
  have h2 := hs.2
  rw [decl_eq, kids_256 h, kidsIn_eq]
  unfold stmt4
  grind [exprs1, exprs2, exprs3, exprsN, cls1, cls2, cls4, cls8, cls16, cls32, cls64, cls128, cls256, cls512, allB, namedP]
theorem row_6 {pd : Nat → PD} {d : PD} {i : Nat} {q : Nat → Option PX} (h : Kin pd d i q) (hs : slimP d) : (usesP d false false false false false && (kidsR [32] d.nk q)) = (kidsIn d i && stmt6 pd d) := by
  have h1 := hs.1
  have h2 := hs.2
  rw [uses_bare, kids_32 h, kidsIn_eq]
  unfold stmt6
  grind [exprs1, exprs2, exprs3, exprsN, cls1, cls2, cls4, cls8, cls16, cls32, cls64, cls128, cls256, cls512, allB, namedP]
theorem row_16 {pd : Nat → PD} {d : PD} {i : Nat} {q : Nat → Option PX} (h : Kin pd d i q) (hs : slimP d) : (usesP d false false false false false && (kidsR [32] d.nk q)) = (kidsIn d i && stmt16 pd d) := by
  have h1 := hs.1
  have h2 := hs.2
  rw [uses_bare, kids_32 h, kidsIn_eq]
  unfold stmt16
  grind [exprs1, exprs2, exprs3, exprsN, cls1, cls2, cls4, cls8, cls16, cls32, cls64, cls128, cls256, cls512, allB, namedP]
theorem row_7 {pd : Nat → PD} {d : PD} {i : Nat} {q : Nat → Option PX} (h : Kin pd d i q) (hs : slimP d) : (usesP d false false false false false && ((kidsR [8, 2] d.nk q || kidsR [8, 2, 4] d.nk q))) = (kidsIn d i && stmt7 pd d) := by
  have h1 := hs.1
  have h2 := hs.2
  rw [uses_bare, kids_8_2 h, kids_8_2_4 h, kidsIn_eq]
  unfold stmt7
  grind [exprs1, exprs2, exprs3, exprsN, cls1, cls2, cls4, cls8, cls16, cls32, cls64, cls128, cls256, cls512, allB, namedP]
theorem row_8 {pd : Nat → PD} {d : PD} {i : Nat} {q : Nat → Option PX} (h : Kin pd d i q) (hs : slimP d) : (usesP d false false false false false && (kidsR [8, 2] d.nk q)) = (kidsIn d i && stmt8 pd d) := by
  have h1 := hs.1
  have h2 := hs.2
  rw [uses_bare, kids_8_2 h, kidsIn_eq]
  unfold stmt8
  grind [exprs1, exprs2, exprs3, exprsN, cls1, cls2, cls4, cls8, cls16, cls32, cls64, cls128, cls256, cls512, allB, namedP]
theorem row_9 {pd : Nat → PD} {d : PD} {i : Nat} {q : Nat → Option PX} (h : Kin pd d i q) (hs : slimP d) : (declP d 1 1 && ((kidsR [8, 8, 2] d.nk q || kidsR [8, 8, 8, 2] d.nk q))) = (kidsIn d i && stmt9 pd d) := by
  have h1 := hs.1
  have h2 := hs.2
  rw [decl_eq, kids_8_8_2 h, kids_8_8_8_2 h, kidsIn_eq]
  unfold stmt9
  grind [exprs1, exprs2, exprs3, exprsN, cls1, cls2, cls4, cls8, cls16, cls32, cls64, cls128, cls256, cls512, allB, namedP]
theorem row_10 {pd : Nat → PD} {d : PD} {i : Nat} {q : Nat → Option PX} (h : Kin pd d i q) (hs : slimP d) : (declP d 1 200 && (kidsR [8, 2] d.nk q)) = (kidsIn d i && stmt10 pd d) := by
  have h1 := hs.1
  have h2 := hs.2
  rw [decl_eq, kids_8_2 h, kidsIn_eq]
  unfold stmt10
  grind [exprs1, exprs2, exprs3, exprsN, cls1, cls2, cls4, cls8, cls16, cls32, cls64, cls128, cls256, cls512, allB, namedP]
theorem row_11 {pd : Nat → PD} {d : PD} {i : Nat} {q : Nat → Option PX} (h : Kin pd d i q) (hs : slimP d) : (usesP d false false false false false && (kidsR [] d.nk q)) = (kidsIn d i && stmt11 pd d) := by
  have h1 := hs.1
  have h2 := hs.2
  rw [uses_bare, kids0 h, kidsIn_eq]
  unfold stmt11
  grind [exprs1, exprs2, exprs3, exprsN, cls1, cls2, cls4, cls8, cls16, cls32, cls64, cls128, cls256, cls512, allB, namedP]
theorem row_12 {pd : Nat → PD} {d : PD} {i : Nat} {q : Nat → Option PX} (h : Kin pd d i q) (hs : slimP d) : (usesP d false false false false false && (kidsR [] d.nk q)) = (kidsIn d i && stmt12 pd d) := by
  have h1 := hs.1
  have h2 := hs.2
  rw [uses_bare, kids0 h, kidsIn_eq]
  unfold stmt12
  grind [exprs1, exprs2, exprs3, exprsN, cls1, cls2, cls4, cls8, cls16, cls32, cls64, cls128, cls256, cls512, allB, namedP]
theorem row_13 {pd : Nat → PD} {d : PD} {i : Nat} {q : Nat → Option PX} (h : Kin pd d i q) (hs : slimP d) : (usesP d false false false false false && (standR 8 d.nk q)) = (kidsIn d i && stmt13 pd d) := by
  have h1 := hs.1
  have h2 := hs.2
  rw [uses_bare, stand_eq8 h, kidsIn_eq]
  unfold stmt13
  grind [exprs1, exprs2, exprs3, exprsN, cls1, cls2, cls4, cls8, cls16, cls32, cls64, cls128, cls256, cls512, allB, namedP]
theorem row_14 {pd : Nat → PD} {d : PD} {i : Nat} {q : Nat → Option PX} (h : Kin pd d i q) (hs : slimP d) : (declP d 1 2 && (kidsR [2, 2] d.nk q)) = (kidsIn d i && stmt14 pd d) := by
  have h1 := hs.1
  have h2 := hs.2
  rw [decl_eq, kids_2_2 h, kidsIn_eq]
  unfold stmt14
  grind [exprs1, exprs2, exprs3, exprsN, cls1, cls2, cls4, cls8, cls16, cls32, cls64, cls128, cls256, cls512, allB, namedP]
theorem row_15 {pd : Nat → PD} {d : PD} {i : Nat} {q : Nat → Option PX} (h : Kin pd d i q) (hs : slimP d) : (usesP d false false false false false && (kidsR [8] d.nk q)) = (kidsIn d i && stmt15 pd d) := by
  have h1 := hs.1
  have h2 := hs.2
  rw [uses_bare, kids_8 h, kidsIn_eq]
  unfold stmt15
  grind [exprs1, exprs2, exprs3, exprsN, cls1, cls2, cls4, cls8, cls16, cls32, cls64, cls128, cls256, cls512, allB, namedP]
theorem row_20 {pd : Nat → PD} {d : PD} {i : Nat} {q : Nat → Option PX} (h : Kin pd d i q) (hs : slimP d) : (usesP d false false false false false && (kidsR [] d.nk q)) = (kidsIn d i && expn20 pd d) := by
  have h1 := hs.1
  have h2 := hs.2
  rw [uses_bare, kids0 h, kidsIn_eq]
  unfold expn20
  grind [exprs1, exprs2, exprs3, exprsN, cls1, cls2, cls4, cls8, cls16, cls32, cls64, cls128, cls256, cls512, allB, namedP]
theorem row_21 {pd : Nat → PD} {d : PD} {i : Nat} {q : Nat → Option PX} (h : Kin pd d i q) (hs : slimP d) : (usesP d false false false false false && (kidsR [] d.nk q)) = (kidsIn d i && expn21 pd d) := by
  have h1 := hs.1
  have h2 := hs.2
  rw [uses_bare, kids0 h, kidsIn_eq]
  unfold expn21
  grind [exprs1, exprs2, exprs3, exprsN, cls1, cls2, cls4, cls8, cls16, cls32, cls64, cls128, cls256, cls512, allB, namedP]
theorem row_22 {pd : Nat → PD} {d : PD} {i : Nat} {q : Nat → Option PX} (h : Kin pd d i q) (hs : slimP d) : (usesP d false false false false false && (kidsR [] d.nk q)) = (kidsIn d i && expn22 pd d) := by
  have h1 := hs.1
  have h2 := hs.2
  rw [uses_bare, kids0 h, kidsIn_eq]
  unfold expn22
  grind [exprs1, exprs2, exprs3, exprsN, cls1, cls2, cls4, cls8, cls16, cls32, cls64, cls128, cls256, cls512, allB, namedP]
theorem row_23 {pd : Nat → PD} {d : PD} {i : Nat} {q : Nat → Option PX} (h : Kin pd d i q) (hs : slimP d) : (usesP d false true false false false && (kidsR [] d.nk q)) = (kidsIn d i && expn23 pd d) := by
  have h1 := hs.1
  have h2 := hs.2
  rw [uses_bare, kids0 h, kidsIn_eq]
  unfold expn23
  grind [exprs1, exprs2, exprs3, exprsN, cls1, cls2, cls4, cls8, cls16, cls32, cls64, cls128, cls256, cls512, allB, namedP]
theorem row_24 {pd : Nat → PD} {d : PD} {i : Nat} {q : Nat → Option PX} (h : Kin pd d i q) (hs : slimP d) : (usesP d false false true false false && (fnum d.flt && (kidsR [] d.nk q))) = (kidsIn d i && expn24 pd d) := by
  have h1 := hs.1
  have h2 := hs.2
  rw [uses_flt, kids0 h, kidsIn_eq]
  unfold expn24
  grind [exprs1, exprs2, exprs3, exprsN, cls1, cls2, cls4, cls8, cls16, cls32, cls64, cls128, cls256, cls512, allB, namedP]
theorem row_25 {pd : Nat → PD} {d : PD} {i : Nat} {q : Nat → Option PX} (h : Kin pd d i q) (hs : slimP d) : (usesP d false false false true false && (decide ((d.text.size : Int) ≤ 4000) && (kidsR [] d.nk q))) = (kidsIn d i && expn25 pd d) := by
  have h1 := hs.1
  have h2 := hs.2
  rw [uses_bare, kids0 h, kidsIn_eq]
  unfold expn25
  grind [exprs1, exprs2, exprs3, exprsN, cls1, cls2, cls4, cls8, cls16, cls32, cls64, cls128, cls256, cls512, allB, namedP]
theorem row_26 {pd : Nat → PD} {d : PD} {i : Nat} {q : Nat → Option PX} (h : Kin pd d i q) (hs : slimP d) : (usesP d false false false true false && (nameB d.text && (kidsR [] d.nk q))) = (kidsIn d i && expn26 pd d) := by
  have h1 := hs.1
  have h2 := hs.2
  rw [uses_bare, kids0 h, kidsIn_eq]
  unfold expn26
  grind [exprs1, exprs2, exprs3, exprsN, cls1, cls2, cls4, cls8, cls16, cls32, cls64, cls128, cls256, cls512, allB, namedP]
theorem row_27 {pd : Nat → PD} {d : PD} {i : Nat} {q : Nat → Option PX} (h : Kin pd d i q) (hs : slimP d) : (usesP d false false false false false && (kidsR [] d.nk q)) = (kidsIn d i && expn27 pd d) := by
  have h1 := hs.1
  have h2 := hs.2
  rw [uses_bare, kids0 h, kidsIn_eq]
  unfold expn27
  grind [exprs1, exprs2, exprs3, exprsN, cls1, cls2, cls4, cls8, cls16, cls32, cls64, cls128, cls256, cls512, allB, namedP]
theorem row_28 {pd : Nat → PD} {d : PD} {i : Nat} {q : Nat → Option PX} (h : Kin pd d i q) (hs : slimP d) : (usesP d false false false false false && (kidsR [8, 8] d.nk q)) = (kidsIn d i && expn28 pd d) := by
  have h1 := hs.1
  have h2 := hs.2
  rw [uses_bare, kids_8_8 h, kidsIn_eq]
  unfold expn28
  grind [exprs1, exprs2, exprs3, exprsN, cls1, cls2, cls4, cls8, cls16, cls32, cls64, cls128, cls256, cls512, allB, namedP]
theorem row_29 {pd : Nat → PD} {d : PD} {i : Nat} {q : Nat → Option PX} (h : Kin pd d i q) (hs : slimP d) : (usesP d false false false false false && (kidsR [8, 8] d.nk q)) = (kidsIn d i && expn29 pd d) := by
  have h1 := hs.1
  have h2 := hs.2
  rw [uses_bare, kids_8_8 h, kidsIn_eq]
  unfold expn29
  grind [exprs1, exprs2, exprs3, exprsN, cls1, cls2, cls4, cls8, cls16, cls32, cls64, cls128, cls256, cls512, allB, namedP]
theorem row_30 {pd : Nat → PD} {d : PD} {i : Nat} {q : Nat → Option PX} (h : Kin pd d i q) (hs : slimP d) : (usesP d true false false false false && (decide ((19 : Int) ≤ d.op) && (decide (d.op ≤ 22) && (kidsR [8] d.nk q)))) = (kidsIn d i && expn30 pd d) := by
  have h1 := hs.1
  have h2 := hs.2
  rw [uses_bare, kids_8 h, kidsIn_eq]
  unfold expn30
  grind [exprs1, exprs2, exprs3, exprsN, cls1, cls2, cls4, cls8, cls16, cls32, cls64, cls128, cls256, cls512, allB, namedP]
theorem row_31 {pd : Nat → PD} {d : PD} {i : Nat} {q : Nat → Option PX} (h : Kin pd d i q) (hs : slimP d) : (usesP d true false false false false && (decide ((1 : Int) ≤ d.op) && (decide (d.op ≤ 18) && (kidsR [8, 8] d.nk q)))) = (kidsIn d i && expn31 pd d) := by
  have h1 := hs.1
  have h2 := hs.2
  rw [uses_bare, kids_8_8 h, kidsIn_eq]
  unfold expn31
  grind [exprs1, exprs2, exprs3, exprsN, cls1, cls2, cls4, cls8, cls16, cls32, cls64, cls128, cls256, cls512, allB, namedP]
theorem row_32 {pd : Nat → PD} {d : PD} {i : Nat} {q : Nat → Option PX} (h : Kin pd d i q) (hs : slimP d) : (usesP d false false false false false && (kidsR [16, 8] d.nk q)) = (kidsIn d i && expn32 pd d) := by
  have h1 := hs.1
  have h2 := hs.2
  rw [uses_bare, kids_16_8 h, kidsIn_eq]
  unfold expn32
  grind [exprs1, exprs2, exprs3, exprsN, cls1, cls2, cls4, cls8, cls16, cls32, cls64, cls128, cls256, cls512, allB, namedP]
theorem row_33 {pd : Nat → PD} {d : PD} {i : Nat} {q : Nat → Option PX} (h : Kin pd d i q) (hs : slimP d) : (usesP d false false false true false && (nameB d.text && (kidsR [16] d.nk q))) = (kidsIn d i && expn33 pd d) := by
  have h1 := hs.1
  have h2 := hs.2
  rw [uses_bare, kids_16 h, kidsIn_eq]
  unfold expn33
  grind [exprs1, exprs2, exprs3, exprsN, cls1, cls2, cls4, cls8, cls16, cls32, cls64, cls128, cls256, cls512, allB, namedP]
theorem row_35 {pd : Nat → PD} {d : PD} {i : Nat} {q : Nat → Option PX} (h : Kin pd d i q) (hs : slimP d) : (usesP d false false false false false && (standR 512 d.nk q)) = (kidsIn d i && expn35 pd d) := by
  have h1 := hs.1
  have h2 := hs.2
  rw [uses_bare, stand_eq512 h, kidsIn_eq]
  unfold expn35
  grind [exprs1, exprs2, exprs3, exprsN, cls1, cls2, cls4, cls8, cls16, cls32, cls64, cls128, cls256, cls512, allB, namedP]
theorem row_36 {pd : Nat → PD} {d : PD} {i : Nat} {q : Nat → Option PX} (h : Kin pd d i q) (hs : slimP d) : (usesP d true false false false true && ((d.op == 0 || d.op == 1) && (allB (fun i => nameB (d.nm i)) 0 d.nn && (kidsR [2] d.nk q)))) = (kidsIn d i && expn36 pd d) := by
  have h1 := hs.1
  have h2 := hs.2
  rw [uses_bare, kids_2 h, kidsIn_eq]
  unfold expn36
  grind [exprs1, exprs2, exprs3, exprsN, cls1, cls2, cls4, cls8, cls16, cls32, cls64, cls128, cls256, cls512, allB, namedP]
theorem row_37 {pd : Nat → PD} {d : PD} {i : Nat} {q : Nat → Option PX} (h : Kin pd d i q) (hs : slimP d) : (usesP d false false false false false && (kidsR [64] d.nk q)) = (kidsIn d i && expn37 pd d) := by
  have h1 := hs.1
  have h2 := hs.2
  rw [uses_bare, kids_64 h, kidsIn_eq]
  unfold expn37
  grind [exprs1, exprs2, exprs3, exprsN, cls1, cls2, cls4, cls8, cls16, cls32, cls64, cls128, cls256, cls512, allB, namedP]
theorem row_40 {pd : Nat → PD} {d : PD} {i : Nat} {q : Nat → Option PX} (h : Kin pd d i q) (hs : slimP d) : (usesP d false false false false false && (kidsR [8] d.nk q)) = (kidsIn d i && expn40 pd d) := by
  have h1 := hs.1
  have h2 := hs.2
  rw [uses_bare, kids_8 h, kidsIn_eq]
  unfold expn40
  grind [exprs1, exprs2, exprs3, exprsN, cls1, cls2, cls4, cls8, cls16, cls32, cls64, cls128, cls256, cls512, allB, namedP]
theorem row_41 {pd : Nat → PD} {d : PD} {i : Nat} {q : Nat → Option PX} (h : Kin pd d i q) (hs : slimP d) : (usesP d false false false false false && (kidsR [8, 8] d.nk q)) = (kidsIn d i && expn41 pd d) := by
  have h1 := hs.1
  have h2 := hs.2
  rw [uses_bare, kids_8_8 h, kidsIn_eq]
  unfold expn41
  grind [exprs1, exprs2, exprs3, exprsN, cls1, cls2, cls4, cls8, cls16, cls32, cls64, cls128, cls256, cls512, allB, namedP]
theorem row_42 {pd : Nat → PD} {d : PD} {i : Nat} {q : Nat → Option PX} (h : Kin pd d i q) (hs : slimP d) : (usesP d false false false true false && (nameB d.text && (kidsR [8] d.nk q))) = (kidsIn d i && expn42 pd d) := by
  have h1 := hs.1
  have h2 := hs.2
  rw [uses_bare, kids_8 h, kidsIn_eq]
  unfold expn42
  grind [exprs1, exprs2, exprs3, exprsN, cls1, cls2, cls4, cls8, cls16, cls32, cls64, cls128, cls256, cls512, allB, namedP]
end Go.Proofs.Ytnokgdgikdgaeaa

namespace Go.Proofs.Ytnokgdgikdgaeaa
open Go.RowKit

theorem row_5 {pd : Nat → PD} {d : PD} {i : Nat} {q : Nat → Option PX} (h : Kin pd d i q) : (usesP d false true false false false && (targetsR d d.nk q)) = (kidsIn d i && stmt5 pd d) := by
  rw [uses_bare, kidsIn_eq]
  unfold stmt5 targetsR
  by_cases c1 : 1 ≤ d.num
  · by_cases c2 : d.num < d.nk
    · rw [decide_eq_true c1, decide_eq_true c2]
      obtain ⟨t, ht⟩ : ∃ t, d.num.toNat = t := ⟨_, rfl⟩
      have htn : t ≤ d.nk := by omega
      rw [ht]
      have e1 : standR 128 t q = (allB (inB d i) 0 t && allB (fun j => targetP (kidP pd d j)) 0 t) := by
        unfold standR; simp only [h.h128]; exact allB_and _ _ _ _
      have e2 : standR 8 (d.nk - t) (fun j => q (t + j)) = (allB (inB d i) t (d.nk - t) && allB (fun j => exprP (kidP pd d j)) t (d.nk - t)) := by
        unfold standR; simp only [h.h8]
        rw [allB_shift (fun j => inB d i j && cls8 (kidP pd d j)) (d.nk - t) 0 t]
        exact allB_and _ _ _ _
      have e3 : allB (inB d i) 0 d.nk = (allB (inB d i) 0 t && allB (inB d i) t (d.nk - t)) := by
        have := allB_parts (inB d i) t (d.nk - t) 0
        rw [show t + (d.nk - t) = d.nk by omega, Nat.zero_add] at this
        exact this
      have e4 : exprsP pd d t d.nk = allB (fun j => exprP (kidP pd d j)) t (d.nk - t) := rfl
      rw [e1, e2, e3, e4]
      generalize allB (inB d i) 0 t = a1
      generalize allB (inB d i) t (d.nk - t) = a2
      generalize allB (fun j => targetP (kidP pd d j)) 0 t = a3
      generalize allB (fun j => exprP (kidP pd d j)) t (d.nk - t) = a4
      generalize bareP d false true false false = a5
      revert a1 a2 a3 a4 a5
      decide
    · rw [decide_eq_false c2]; simp
  · rw [decide_eq_false c1]; simp
theorem row_34 {pd : Nat → PD} {d : PD} {i : Nat} {q : Nat → Option PX} (h : Kin pd d i q) : (usesP d false false false false false && (decide ((1 : Int) ≤ d.nk) && (standR 16 1 q && standR 8 (d.nk - 1) (fun i => q (1 + i))))) = (kidsIn d i && expn34 pd d) := by
  rw [uses_bare, kidsIn_eq]
  unfold expn34
  rw [exprsN]
  by_cases c1 : 0 < d.nk
  · obtain ⟨n, hn⟩ : ∃ n, d.nk = n + 1 := ⟨d.nk - 1, by omega⟩
    rw [decide_eq_true c1, decide_eq_true (show (1 : Int) ≤ d.nk by omega)]
    have e1 : standR 16 1 q = (inB d i 0 && cls16 (kidP pd d 0)) := by
      unfold standR; simp only [h.h16, allB, Bool.and_true]
    have e2 : standR 8 (d.nk - 1) (fun j => q (1 + j)) = (allB (inB d i) 1 n && allB (fun j => exprP (kidP pd d j)) 1 n) := by
      rw [hn, Nat.add_sub_cancel]
      unfold standR; simp only [h.h8]
      rw [allB_shift (fun j => inB d i j && cls8 (kidP pd d j)) n 0 1]
      exact allB_and _ _ _ _
    have e3 : allB (inB d i) 0 d.nk = (inB d i 0 && allB (inB d i) 1 n) := by rw [hn]; rfl
    have e4 : allB (fun j => exprP (kidP pd d j)) 0 d.nk = (exprP (kidP pd d 0) && allB (fun j => exprP (kidP pd d j)) 1 n) := by rw [hn]; rfl
    have e5 : cls16 (kidP pd d 0) = (exprP (kidP pd d 0) && !(kidP pd d 0 == 27)) := rfl
    rw [e1, e2, e3, e4, e5]
    generalize inB d i 0 = a1
    generalize allB (inB d i) 1 n = a2
    generalize exprP (kidP pd d 0) = a3
    generalize allB (fun j => exprP (kidP pd d j)) 1 n = a4
    generalize (kidP pd d 0 == 27) = a5
    generalize bareP d false false false false = a6
    revert a1 a2 a3 a4 a5 a6
    decide
  · rw [decide_eq_false c1, decide_eq_false (show ¬ (1 : Int) ≤ d.nk by omega)]; simp

theorem shape_eq {pd : Nat → PD} {d : PD} {i : Nat} {q : Nat → Option PX} (h : Kin pd d i q) (hs : slimP d) : (rowS d.kind d d.nk q || (rowE d.kind d d.nk q || rowN d.kind d d.nk q)) = (kidsIn d i && shapeP pd d) := by
  unfold shapeP
  rcases kinds_all d.kind with hk | hk | hk | hk | hk | hk | hk | hk | hk | hk | hk | hk | hk | hk | hk | hk | hk | hk | hk | hk | hk | hk | hk | hk | hk | hk | hk | hk | hk | hk | hk | hk | hk | hk | hk | hk | hk | ⟨_, _, h3⟩
  · have e1 : rowS d.kind d d.nk q = (usesP d false false false false false && (standR 1 d.nk q)) := by rw [hk]; rfl
    have e2 : rowE d.kind d d.nk q = (false) := by rw [hk]; rfl
    have e3 : rowN d.kind d d.nk q = (false) := by rw [hk]; rfl
    have e4 : statP d.kind = true := by rw [hk]; rfl
    have e5 : stmtP pd d = stmt1 pd d := by unfold stmtP; rw [hk]; rfl
    rw [e1, e2, e3, e4]
    simp only [cond_true]
    rw [e5, ← row_1 h hs]
    simp
  · have e1 : rowS d.kind d d.nk q = (declP d 1 200 && (standR 8 d.nk q)) := by rw [hk]; rfl
    have e2 : rowE d.kind d d.nk q = (false) := by rw [hk]; rfl
    have e3 : rowN d.kind d d.nk q = (false) := by rw [hk]; rfl
    have e4 : statP d.kind = true := by rw [hk]; rfl
    have e5 : stmtP pd d = stmt2 pd d := by unfold stmtP; rw [hk]; rfl
    rw [e1, e2, e3, e4]
    simp only [cond_true]
    rw [e5, ← row_2 h hs]
    simp
  · have e1 : rowS d.kind d d.nk q = (declP d 1 1 && (kidsR [8] d.nk q)) := by rw [hk]; rfl
    have e2 : rowE d.kind d d.nk q = (false) := by rw [hk]; rfl
    have e3 : rowN d.kind d d.nk q = (false) := by rw [hk]; rfl
    have e4 : statP d.kind = true := by rw [hk]; rfl
    have e5 : stmtP pd d = stmt3 pd d := by unfold stmtP; rw [hk]; rfl
    rw [e1, e2, e3, e4]
    simp only [cond_true]
    rw [e5, ← row_3 h hs]
    simp
  · have e1 : rowS d.kind d d.nk q = (declP d 1 1 && (kidsR [256] d.nk q)) := by rw [hk]; rfl
    have e2 : rowE d.kind d d.nk q = (false) := by rw [hk]; rfl
    have e3 : rowN d.kind d d.nk q = (false) := by rw [hk]; rfl
    have e4 : statP d.kind = true := by rw [hk]; rfl
    have e5 : stmtP pd d = stmt4 pd d := by unfold stmtP; rw [hk]; rfl
    rw [e1, e2, e3, e4]
    simp only [cond_true]
    rw [e5, ← row_4 h hs]
    simp
  · have e1 : rowS d.kind d d.nk q = (usesP d false true false false false && (targetsR d d.nk q)) := by rw [hk]; rfl
    have e2 : rowE d.kind d d.nk q = (false) := by rw [hk]; rfl
    have e3 : rowN d.kind d d.nk q = (false) := by rw [hk]; rfl
    have e4 : statP d.kind = true := by rw [hk]; rfl
    have e5 : stmtP pd d = stmt5 pd d := by unfold stmtP; rw [hk]; rfl
    rw [e1, e2, e3, e4]
    simp only [cond_true]
    rw [e5, ← row_5 h]
    simp
  · have e1 : rowS d.kind d d.nk q = (usesP d false false false false false && (kidsR [32] d.nk q)) := by rw [hk]; rfl
    have e2 : rowE d.kind d d.nk q = (false) := by rw [hk]; rfl
    have e3 : rowN d.kind d d.nk q = (false) := by rw [hk]; rfl
    have e4 : statP d.kind = true := by rw [hk]; rfl
    have e5 : stmtP pd d = stmt6 pd d := by unfold stmtP; rw [hk]; rfl
    rw [e1, e2, e3, e4]
    simp only [cond_true]
    rw [e5, ← row_6 h hs]
    simp
  · have e1 : rowS d.kind d d.nk q = (usesP d false false false false false && (kidsR [32] d.nk q)) := by rw [hk]; rfl
    have e2 : rowE d.kind d d.nk q = (false) := by rw [hk]; rfl
    have e3 : rowN d.kind d d.nk q = (false) := by rw [hk]; rfl
    have e4 : statP d.kind = true := by rw [hk]; rfl
    have e5 : stmtP pd d = stmt16 pd d := by unfold stmtP; rw [hk]; rfl
    rw [e1, e2, e3, e4]
    simp only [cond_true]
    rw [e5, ← row_16 h hs]
    simp
  · have e1 : rowS d.kind d d.nk q = (usesP d false false false false false && ((kidsR [8, 2] d.nk q || kidsR [8, 2, 4] d.nk q))) := by rw [hk]; rfl
    have e2 : rowE d.kind d d.nk q = (false) := by rw [hk]; rfl
    have e3 : rowN d.kind d d.nk q = (false) := by rw [hk]; rfl
    have e4 : statP d.kind = true := by rw [hk]; rfl
    have e5 : stmtP pd d = stmt7 pd d := by unfold stmtP; rw [hk]; rfl
    rw [e1, e2, e3, e4]
    simp only [cond_true]
    rw [e5, ← row_7 h hs]
    simp
  · have e1 : rowS d.kind d d.nk q = (usesP d false false false false false && (kidsR [8, 2] d.nk q)) := by rw [hk]; rfl
    have e2 : rowE d.kind d d.nk q = (false) := by rw [hk]; rfl
    have e3 : rowN d.kind d d.nk q = (false) := by rw [hk]; rfl
    have e4 : statP d.kind = true := by rw [hk]; rfl
    have e5 : stmtP pd d = stmt8 pd d := by unfold stmtP; rw [hk]; rfl
    rw [e1, e2, e3, e4]
    simp only [cond_true]
    rw [e5, ← row_8 h hs]
    simp
  · have e1 : rowS d.kind d d.nk q = (declP d 1 1 && ((kidsR [8, 8, 2] d.nk q || kidsR [8, 8, 8, 2] d.nk q))) := by rw [hk]; rfl
    have e2 : rowE d.kind d d.nk q = (false) := by rw [hk]; rfl
    have e3 : rowN d.kind d d.nk q = (false) := by rw [hk]; rfl
    have e4 : statP d.kind = true := by rw [hk]; rfl
    have e5 : stmtP pd d = stmt9 pd d := by unfold stmtP; rw [hk]; rfl
    rw [e1, e2, e3, e4]
    simp only [cond_true]
    rw [e5, ← row_9 h hs]
    simp
  · have e1 : rowS d.kind d d.nk q = (declP d 1 200 && (kidsR [8, 2] d.nk q)) := by rw [hk]; rfl
    have e2 : rowE d.kind d d.nk q = (false) := by rw [hk]; rfl
    have e3 : rowN d.kind d d.nk q = (false) := by rw [hk]; rfl
    have e4 : statP d.kind = true := by rw [hk]; rfl
    have e5 : stmtP pd d = stmt10 pd d := by unfold stmtP; rw [hk]; rfl
    rw [e1, e2, e3, e4]
    simp only [cond_true]
    rw [e5, ← row_10 h hs]
    simp
  · have e1 : rowS d.kind d d.nk q = (usesP d false false false false false && (kidsR [] d.nk q)) := by rw [hk]; rfl
    have e2 : rowE d.kind d d.nk q = (false) := by rw [hk]; rfl
    have e3 : rowN d.kind d d.nk q = (false) := by rw [hk]; rfl
    have e4 : statP d.kind = true := by rw [hk]; rfl
    have e5 : stmtP pd d = stmt11 pd d := by unfold stmtP; rw [hk]; rfl
    rw [e1, e2, e3, e4]
    simp only [cond_true]
    rw [e5, ← row_11 h hs]
    simp
  · have e1 : rowS d.kind d d.nk q = (usesP d false false false false false && (kidsR [] d.nk q)) := by rw [hk]; rfl
    have e2 : rowE d.kind d d.nk q = (false) := by rw [hk]; rfl
    have e3 : rowN d.kind d d.nk q = (false) := by rw [hk]; rfl
    have e4 : statP d.kind = true := by rw [hk]; rfl
    have e5 : stmtP pd d = stmt12 pd d := by unfold stmtP; rw [hk]; rfl
    rw [e1, e2, e3, e4]
    simp only [cond_true]
    rw [e5, ← row_12 h hs]
    simp
  · have e1 : rowS d.kind d d.nk q = (usesP d false false false false false && (standR 8 d.nk q)) := by rw [hk]; rfl
    have e2 : rowE d.kind d d.nk q = (false) := by rw [hk]; rfl
    have e3 : rowN d.kind d d.nk q = (false) := by rw [hk]; rfl
    have e4 : statP d.kind = true := by rw [hk]; rfl
    have e5 : stmtP pd d = stmt13 pd d := by unfold stmtP; rw [hk]; rfl
    rw [e1, e2, e3, e4]
    simp only [cond_true]
    rw [e5, ← row_13 h hs]
    simp
  · have e1 : rowS d.kind d d.nk q = (declP d 1 2 && (kidsR [2, 2] d.nk q)) := by rw [hk]; rfl
    have e2 : rowE d.kind d d.nk q = (false) := by rw [hk]; rfl
    have e3 : rowN d.kind d d.nk q = (false) := by rw [hk]; rfl
    have e4 : statP d.kind = true := by rw [hk]; rfl
    have e5 : stmtP pd d = stmt14 pd d := by unfold stmtP; rw [hk]; rfl
    rw [e1, e2, e3, e4]
    simp only [cond_true]
    rw [e5, ← row_14 h hs]
    simp
  · have e1 : rowS d.kind d d.nk q = (usesP d false false false false false && (kidsR [8] d.nk q)) := by rw [hk]; rfl
    have e2 : rowE d.kind d d.nk q = (false) := by rw [hk]; rfl
    have e3 : rowN d.kind d d.nk q = (false) := by rw [hk]; rfl
    have e4 : statP d.kind = true := by rw [hk]; rfl
    have e5 : stmtP pd d = stmt15 pd d := by unfold stmtP; rw [hk]; rfl
    rw [e1, e2, e3, e4]
    simp only [cond_true]
    rw [e5, ← row_15 h hs]
    simp
  · have e1 : rowS d.kind d d.nk q = (false) := by rw [hk]; rfl
    have e2 : rowE d.kind d d.nk q = (usesP d false false false false false && (kidsR [] d.nk q)) := by rw [hk]; rfl
    have e3 : rowN d.kind d d.nk q = (false) := by rw [hk]; rfl
    have e4 : statP d.kind = false := by rw [hk]; rfl
    have e5 : expnP pd d = expn20 pd d := by unfold expnP; rw [hk]; rfl
    rw [e1, e2, e3, e4]
    simp only [cond_false]
    rw [e5, ← row_20 h hs]
    simp
  · have e1 : rowS d.kind d d.nk q = (false) := by rw [hk]; rfl
    have e2 : rowE d.kind d d.nk q = (usesP d false false false false false && (kidsR [] d.nk q)) := by rw [hk]; rfl
    have e3 : rowN d.kind d d.nk q = (false) := by rw [hk]; rfl
    have e4 : statP d.kind = false := by rw [hk]; rfl
    have e5 : expnP pd d = expn21 pd d := by unfold expnP; rw [hk]; rfl
    rw [e1, e2, e3, e4]
    simp only [cond_false]
    rw [e5, ← row_21 h hs]
    simp
  · have e1 : rowS d.kind d d.nk q = (false) := by rw [hk]; rfl
    have e2 : rowE d.kind d d.nk q = (usesP d false false false false false && (kidsR [] d.nk q)) := by rw [hk]; rfl
    have e3 : rowN d.kind d d.nk q = (false) := by rw [hk]; rfl
    have e4 : statP d.kind = false := by rw [hk]; rfl
    have e5 : expnP pd d = expn22 pd d := by unfold expnP; rw [hk]; rfl
    rw [e1, e2, e3, e4]
    simp only [cond_false]
    rw [e5, ← row_22 h hs]
    simp
  · have e1 : rowS d.kind d d.nk q = (false) := by rw [hk]; rfl
    have e2 : rowE d.kind d d.nk q = (usesP d false true false false false && (kidsR [] d.nk q)) := by rw [hk]; rfl
    have e3 : rowN d.kind d d.nk q = (false) := by rw [hk]; rfl
    have e4 : statP d.kind = false := by rw [hk]; rfl
    have e5 : expnP pd d = expn23 pd d := by unfold expnP; rw [hk]; rfl
    rw [e1, e2, e3, e4]
    simp only [cond_false]
    rw [e5, ← row_23 h hs]
    simp
  · have e1 : rowS d.kind d d.nk q = (false) := by rw [hk]; rfl
    have e2 : rowE d.kind d d.nk q = (usesP d false false true false false && (fnum d.flt && (kidsR [] d.nk q))) := by rw [hk]; rfl
    have e3 : rowN d.kind d d.nk q = (false) := by rw [hk]; rfl
    have e4 : statP d.kind = false := by rw [hk]; rfl
    have e5 : expnP pd d = expn24 pd d := by unfold expnP; rw [hk]; rfl
    rw [e1, e2, e3, e4]
    simp only [cond_false]
    rw [e5, ← row_24 h hs]
    simp
  · have e1 : rowS d.kind d d.nk q = (false) := by rw [hk]; rfl
    have e2 : rowE d.kind d d.nk q = (usesP d false false false true false && (decide ((d.text.size : Int) ≤ 4000) && (kidsR [] d.nk q))) := by rw [hk]; rfl
    have e3 : rowN d.kind d d.nk q = (false) := by rw [hk]; rfl
    have e4 : statP d.kind = false := by rw [hk]; rfl
    have e5 : expnP pd d = expn25 pd d := by unfold expnP; rw [hk]; rfl
    rw [e1, e2, e3, e4]
    simp only [cond_false]
    rw [e5, ← row_25 h hs]
    simp
  · have e1 : rowS d.kind d d.nk q = (false) := by rw [hk]; rfl
    have e2 : rowE d.kind d d.nk q = (usesP d false false false true false && (nameB d.text && (kidsR [] d.nk q))) := by rw [hk]; rfl
    have e3 : rowN d.kind d d.nk q = (false) := by rw [hk]; rfl
    have e4 : statP d.kind = false := by rw [hk]; rfl
    have e5 : expnP pd d = expn26 pd d := by unfold expnP; rw [hk]; rfl
    rw [e1, e2, e3, e4]
    simp only [cond_false]
    rw [e5, ← row_26 h hs]
    simp
  · have e1 : rowS d.kind d d.nk q = (false) := by rw [hk]; rfl
    have e2 : rowE d.kind d d.nk q = (usesP d false false false false false && (kidsR [] d.nk q)) := by rw [hk]; rfl
    have e3 : rowN d.kind d d.nk q = (false) := by rw [hk]; rfl
    have e4 : statP d.kind = false := by rw [hk]; rfl
    have e5 : expnP pd d = expn27 pd d := by unfold expnP; rw [hk]; rfl
    rw [e1, e2, e3, e4]
    simp only [cond_false]
    rw [e5, ← row_27 h hs]
    simp
  · have e1 : rowS d.kind d d.nk q = (false) := by rw [hk]; rfl
    have e2 : rowE d.kind d d.nk q = (usesP d false false false false false && (kidsR [8, 8] d.nk q)) := by rw [hk]; rfl
    have e3 : rowN d.kind d d.nk q = (false) := by rw [hk]; rfl
    have e4 : statP d.kind = false := by rw [hk]; rfl
    have e5 : expnP pd d = expn28 pd d := by unfold expnP; rw [hk]; rfl
    rw [e1, e2, e3, e4]
    simp only [cond_false]
    rw [e5, ← row_28 h hs]
    simp
  · have e1 : rowS d.kind d d.nk q = (false) := by rw [hk]; rfl
    have e2 : rowE d.kind d d.nk q = (usesP d false false false false false && (kidsR [8, 8] d.nk q)) := by rw [hk]; rfl
    have e3 : rowN d.kind d d.nk q = (false) := by rw [hk]; rfl
    have e4 : statP d.kind = false := by rw [hk]; rfl
    have e5 : expnP pd d = expn29 pd d := by unfold expnP; rw [hk]; rfl
    rw [e1, e2, e3, e4]
    simp only [cond_false]
    rw [e5, ← row_29 h hs]
    simp
  · have e1 : rowS d.kind d d.nk q = (false) := by rw [hk]; rfl
    have e2 : rowE d.kind d d.nk q = (usesP d true false false false false && (decide ((19 : Int) ≤ d.op) && (decide (d.op ≤ 22) && (kidsR [8] d.nk q)))) := by rw [hk]; rfl
    have e3 : rowN d.kind d d.nk q = (false) := by rw [hk]; rfl
    have e4 : statP d.kind = false := by rw [hk]; rfl
    have e5 : expnP pd d = expn30 pd d := by unfold expnP; rw [hk]; rfl
    rw [e1, e2, e3, e4]
    simp only [cond_false]
    rw [e5, ← row_30 h hs]
    simp
  · have e1 : rowS d.kind d d.nk q = (false) := by rw [hk]; rfl
    have e2 : rowE d.kind d d.nk q = (usesP d true false false false false && (decide ((1 : Int) ≤ d.op) && (decide (d.op ≤ 18) && (kidsR [8, 8] d.nk q)))) := by rw [hk]; rfl
    have e3 : rowN d.kind d d.nk q = (false) := by rw [hk]; rfl
    have e4 : statP d.kind = false := by rw [hk]; rfl
    have e5 : expnP pd d = expn31 pd d := by unfold expnP; rw [hk]; rfl
    rw [e1, e2, e3, e4]
    simp only [cond_false]
    rw [e5, ← row_31 h hs]
    simp
  · have e1 : rowS d.kind d d.nk q = (false) := by rw [hk]; rfl
    have e2 : rowE d.kind d d.nk q = (usesP d false false false false false && (kidsR [16, 8] d.nk q)) := by rw [hk]; rfl
    have e3 : rowN d.kind d d.nk q = (false) := by rw [hk]; rfl
    have e4 : statP d.kind = false := by rw [hk]; rfl
    have e5 : expnP pd d = expn32 pd d := by unfold expnP; rw [hk]; rfl
    rw [e1, e2, e3, e4]
    simp only [cond_false]
    rw [e5, ← row_32 h hs]
    simp
  · have e1 : rowS d.kind d d.nk q = (false) := by rw [hk]; rfl
    have e2 : rowE d.kind d d.nk q = (usesP d false false false true false && (nameB d.text && (kidsR [16] d.nk q))) := by rw [hk]; rfl
    have e3 : rowN d.kind d d.nk q = (false) := by rw [hk]; rfl
    have e4 : statP d.kind = false := by rw [hk]; rfl
    have e5 : expnP pd d = expn33 pd d := by unfold expnP; rw [hk]; rfl
    rw [e1, e2, e3, e4]
    simp only [cond_false]
    rw [e5, ← row_33 h hs]
    simp
  · have e1 : rowS d.kind d d.nk q = (false) := by rw [hk]; rfl
    have e2 : rowE d.kind d d.nk q = (usesP d false false false false false && ((decide ((1 : Int) ≤ d.nk) && (standR 16 1 q && standR 8 (d.nk - 1) (fun i => q (1 + i)))))) := by rw [hk]; rfl
    have e3 : rowN d.kind d d.nk q = (false) := by rw [hk]; rfl
    have e4 : statP d.kind = false := by rw [hk]; rfl
    have e5 : expnP pd d = expn34 pd d := by unfold expnP; rw [hk]; rfl
    rw [e1, e2, e3, e4]
    simp only [cond_false]
    rw [e5, ← row_34 h]
    simp
  · have e1 : rowS d.kind d d.nk q = (false) := by rw [hk]; rfl
    have e2 : rowE d.kind d d.nk q = (usesP d false false false false false && (standR 512 d.nk q)) := by rw [hk]; rfl
    have e3 : rowN d.kind d d.nk q = (false) := by rw [hk]; rfl
    have e4 : statP d.kind = false := by rw [hk]; rfl
    have e5 : expnP pd d = expn35 pd d := by unfold expnP; rw [hk]; rfl
    rw [e1, e2, e3, e4]
    simp only [cond_false]
    rw [e5, ← row_35 h hs]
    simp
  · have e1 : rowS d.kind d d.nk q = (false) := by rw [hk]; rfl
    have e2 : rowE d.kind d d.nk q = (usesP d true false false false true && ((d.op == 0 || d.op == 1) && (allB (fun i => nameB (d.nm i)) 0 d.nn && (kidsR [2] d.nk q)))) := by rw [hk]; rfl
    have e3 : rowN d.kind d d.nk q = (false) := by rw [hk]; rfl
    have e4 : statP d.kind = false := by rw [hk]; rfl
    have e5 : expnP pd d = expn36 pd d := by unfold expnP; rw [hk]; rfl
    rw [e1, e2, e3, e4]
    simp only [cond_false]
    rw [e5, ← row_36 h hs]
    simp
  · have e1 : rowS d.kind d d.nk q = (false) := by rw [hk]; rfl
    have e2 : rowE d.kind d d.nk q = (usesP d false false false false false && (kidsR [64] d.nk q)) := by rw [hk]; rfl
    have e3 : rowN d.kind d d.nk q = (false) := by rw [hk]; rfl
    have e4 : statP d.kind = false := by rw [hk]; rfl
    have e5 : expnP pd d = expn37 pd d := by unfold expnP; rw [hk]; rfl
    rw [e1, e2, e3, e4]
    simp only [cond_false]
    rw [e5, ← row_37 h hs]
    simp
  · have e1 : rowS d.kind d d.nk q = (false) := by rw [hk]; rfl
    have e2 : rowE d.kind d d.nk q = (false) := by rw [hk]; rfl
    have e3 : rowN d.kind d d.nk q = (usesP d false false false false false && (kidsR [8] d.nk q)) := by rw [hk]; rfl
    have e4 : statP d.kind = false := by rw [hk]; rfl
    have e5 : expnP pd d = expn40 pd d := by unfold expnP; rw [hk]; rfl
    rw [e1, e2, e3, e4]
    simp only [cond_false]
    rw [e5, ← row_40 h hs]
    simp
  · have e1 : rowS d.kind d d.nk q = (false) := by rw [hk]; rfl
    have e2 : rowE d.kind d d.nk q = (false) := by rw [hk]; rfl
    have e3 : rowN d.kind d d.nk q = (usesP d false false false false false && (kidsR [8, 8] d.nk q)) := by rw [hk]; rfl
    have e4 : statP d.kind = false := by rw [hk]; rfl
    have e5 : expnP pd d = expn41 pd d := by unfold expnP; rw [hk]; rfl
    rw [e1, e2, e3, e4]
    simp only [cond_false]
    rw [e5, ← row_41 h hs]
    simp
  · have e1 : rowS d.kind d d.nk q = (false) := by rw [hk]; rfl
    have e2 : rowE d.kind d d.nk q = (false) := by rw [hk]; rfl
    have e3 : rowN d.kind d d.nk q = (usesP d false false false true false && (nameB d.text && (kidsR [8] d.nk q))) := by rw [hk]; rfl
    have e4 : statP d.kind = false := by rw [hk]; rfl
    have e5 : expnP pd d = expn42 pd d := by unfold expnP; rw [hk]; rfl
    rw [e1, e2, e3, e4]
    simp only [cond_false]
    rw [e5, ← row_42 h hs]
    simp
  · obtain ⟨e1, e2, e3, e4, e5, e6, e16, e7, e8, e9, e10, e11, e12, e13, e14, e15, e20, e21, e22, e23, e24, e25, e26, e27, e28, e29, e30, e31, e32, e33, e34, e35, e36, e37, e40, e41, e42⟩ := h3
    have f1 : rowS d.kind d d.nk q = false := by unfold rowS; rw [if_neg e1, if_neg e2, if_neg e3, if_neg e4, if_neg e5, if_neg e6, if_neg e16, if_neg e7, if_neg e8, if_neg e9, if_neg e10, if_neg e11, if_neg e12, if_neg e13, if_neg e14, if_neg e15]
    have f2 : rowE d.kind d d.nk q = false := by unfold rowE; rw [if_neg e20, if_neg e21, if_neg e22, if_neg e23, if_neg e24, if_neg e25, if_neg e26, if_neg e27, if_neg e28, if_neg e29, if_neg e30, if_neg e31, if_neg e32, if_neg e33, if_neg e34, if_neg e35, if_neg e36, if_neg e37]
    have f3 : rowN d.kind d d.nk q = false := by unfold rowN; rw [if_neg e40, if_neg e41, if_neg e42]
    have f4 : statP d.kind = false := by
      rw [← Bool.not_eq_true]; simp [statP]; omega
    have f5 : expnP pd d = false := by unfold expnP; rw [if_neg e20, if_neg e21, if_neg e22, if_neg e23, if_neg e24, if_neg e25, if_neg e26, if_neg e27, if_neg e28, if_neg e29, if_neg e30, if_neg e31, if_neg e32, if_neg e33, if_neg e34, if_neg e35, if_neg e36, if_neg e37, if_neg e40, if_neg e41, if_neg e42]
    rw [f1, f2, f3, f4, f5]
    simp
end Go.Proofs.Ytnokgdgikdgaeaa
