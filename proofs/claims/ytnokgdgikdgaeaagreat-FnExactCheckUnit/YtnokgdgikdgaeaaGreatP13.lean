import Derived.Test.YtnokgdgikdgaeaaGreatP12
namespace Go.Proofs.YtnokgdgikdgaeaaGreat
open Go.RowKit

theorem exprs_all (nd : Nat → ND) (n : Nat) : exprsB nd n 0 (nd n).nk = allB (fun i => exprB (kidK nd n i)) 0 (nd n).nk := rfl

theorem fit_1 {nd : Nat → ND} {n : Nat} (h : (nd n).kind = 1) : fitK (nd n) (kfN nd n) = (inB nd n && stmtB nd n) := by
  have e1 : fitK (nd n) (kfN nd n) = (usesB (nd n) false false false false false true && allB (fun i => classB 0 (kfN nd n i)) 0 (nd n).nk) := by simp [fitK, h]
  have e2 : stmtB nd n = (allB (fun i => statB (kidK nd n i)) 0 (nd n).nk && bareB (nd n) false false false false 0) := by simp [stmtB, h]
  have e3 := all_in nd n (p := statB) (q := classB 0) (nd n).nk rfl (fun k hk => class_ne hk) (fun k => rfl)
  rw [e1, e2, ← e3]
  grind [usesB, bareB]
theorem fit_2 {nd : Nat → ND} {n : Nat} (h : (nd n).kind = 2) : fitK (nd n) (kfN nd n) = (inB nd n && stmtB nd n) := by
  have e1 : fitK (nd n) (kfN nd n) = (usesB (nd n) false false false false true true && decide (1 ≤ ((nd n).nr : Int)) && allB (fun i => classB 1 (kfN nd n i)) 0 (nd n).nk) := by simp [fitK, h]
  have e2 : stmtB nd n = (decide (0 < (nd n).nr) && bareB (nd n) false false false false (nd n).nr && exprsB nd n 0 (nd n).nk) := by simp [stmtB, h]
  have e3 := all_in nd n (p := exprB) (q := classB 1) (nd n).nk rfl (fun k hk => class_ne hk) (fun k => rfl)
  rw [e1, e2, ← e3, exprs_all]
  grind [usesB, bareB]
theorem fit_11 {nd : Nat → ND} {n : Nat} (h : (nd n).kind = 11) : fitK (nd n) (kfN nd n) = (inB nd n && stmtB nd n) := by
  have e1 : fitK (nd n) (kfN nd n) = (usesB (nd n) false false false false false true && allB (fun i => classB 1 (kfN nd n i)) 0 (nd n).nk) := by simp [fitK, h]
  have e2 : stmtB nd n = (exprsB nd n 0 (nd n).nk && bareB (nd n) false false false false 0) := by simp [stmtB, h]
  have e3 := all_in nd n (p := exprB) (q := classB 1) (nd n).nk rfl (fun k hk => class_ne hk) (fun k => rfl)
  rw [e1, e2, ← e3, exprs_all]
  grind [usesB, bareB]
theorem fit_34 {nd : Nat → ND} {n : Nat} (h : (nd n).kind = 34) : fitK (nd n) (kfN nd n) = (inB nd n && exprnB nd n) := by
  have e1 : fitK (nd n) (kfN nd n) = (usesB (nd n) false false false false false true && decide (1 ≤ ((nd n).nk : Int)) && allB (fun i => classB 1 (kfN nd n i)) 0 (nd n).nk) := by simp [fitK, h]
  have e2 : exprnB nd n = (decide (1 ≤ (nd n).nk) && exprsB nd n 0 (nd n).nk && bareB (nd n) false false false false 0) := by simp [exprnB, h]
  have e3 := all_in nd n (p := exprB) (q := classB 1) (nd n).nk rfl (fun k hk => class_ne hk) (fun k => rfl)
  rw [e1, e2, ← e3, exprs_all]
  grind [usesB, bareB]
theorem fit_35 {nd : Nat → ND} {n : Nat} (h : (nd n).kind = 35) : fitK (nd n) (kfN nd n) = (inB nd n && exprnB nd n) := by
  have e1 : fitK (nd n) (kfN nd n) = (usesB (nd n) true false false false false true && (((nd n).nk : Int) % 2 == 0) && allB (fun i => classB 1 (kfN nd n i)) 0 (nd n).nk && ((nd n).op == 0 || (nd n).op == 1 && decide (2 ≤ ((nd n).nk : Int)) && classB 6 (kfN nd n ((nd n).nk - 2)) && classB 5 (kfN nd n ((nd n).nk - 1)))) := by simp [fitK, h]
  have e2 : exprnB nd n = (((nd n).nk : Int) % 2 == 0 && exprsB nd n 0 (nd n).nk && spreadB nd n && bareB (nd n) true false false false 0) := by simp [exprnB, h]
  have e3 := all_in nd n (p := exprB) (q := classB 1) (nd n).nk rfl (fun k hk => class_ne hk) (fun k => rfl)
  rw [e1, e2, ← e3, exprs_all]
  by_cases hz : 2 ≤ (nd n).nk
  · have k1 := kid_kf nd n (i := (nd n).nk - 2) (by omega)
    have k2 := kid_kf nd n (i := (nd n).nk - 1) (by omega)
    grind [usesB, bareB, spreadB, manyB, c5, c6]
  · have hz' : decide ((2 : Int) ≤ ((nd n).nk : Int)) = false := by simp; omega
    grind [usesB, bareB, spreadB]
theorem fit_3 {nd : Nat → ND} {n : Nat} (h : (nd n).kind = 3) : fitK (nd n) (kfN nd n) = (inB nd n && stmtB nd n) := by
  have e1 : fitK (nd n) (kfN nd n) = (usesB (nd n) false true false false false true && decide (1 ≤ (nd n).num) && decide ((nd n).num < (nd n).nk) && allB (fun i => classB 7 (kfN nd n i)) 0 (nd n).num.toNat && allB (fun i => classB 1 (kfN nd n ((nd n).num.toNat + i))) 0 ((nd n).nk - (nd n).num.toNat)) := by simp [fitK, h]
  have e2 : stmtB nd n = (decide (1 ≤ (nd n).num) && decide ((nd n).num < (nd n).nk) && allB (fun i => targetB (kidK nd n i)) 0 (nd n).num.toNat && bareB (nd n) false true false false 0 && exprsB nd n (nd n).num.toNat (nd n).nk) := by simp [stmtB, h]
  rw [e1, e2]
  by_cases hz : 1 ≤ (nd n).num ∧ (nd n).num < (nd n).nk
  · have e3 : (allB (fun i => classB 7 (kfN nd n i)) 0 (nd n).num.toNat && allB (fun i => classB 1 (kfN nd n ((nd n).num.toNat + i))) 0 ((nd n).nk - (nd n).num.toNat)) = (inB nd n && (allB (fun i => targetB (kidK nd n i)) 0 (nd n).num.toNat && exprsB nd n (nd n).num.toNat (nd n).nk)) := by
      unfold exprsB
      rw [Bool.eq_iff_iff]
      simp only [Bool.and_eq_true, allB_iff]
      constructor
      · rintro ⟨h1, h2⟩
        refine ⟨in_of nd n fun i hi => ?_, fun j h0 hj => ?_, fun j h0 hj => ?_⟩
        · by_cases e : i < (nd n).num.toNat
          · exact class_ne (h1 i (Nat.zero_le _) (by omega))
          · have := h2 (i - (nd n).num.toNat) (Nat.zero_le _) (by omega)
            rw [show (nd n).num.toNat + (i - (nd n).num.toNat) = i by omega] at this
            exact class_ne this
        · rw [kid_kf nd n (by omega)]; exact h1 j h0 hj
        · rw [kid_kf nd n (by omega)]
          have := h2 (j - (nd n).num.toNat) (Nat.zero_le _) (by omega)
          rw [show (nd n).num.toNat + (j - (nd n).num.toNat) = j by omega] at this
          exact this
      · rintro ⟨_, h1, h2⟩
        refine ⟨fun j h0 hj => ?_, fun j h0 hj => ?_⟩
        · have := h1 j h0 hj
          rw [kid_kf nd n (by omega)] at this; exact this
        · have := h2 ((nd n).num.toNat + j) (by omega) (by omega)
          rw [kid_kf nd n (by omega)] at this; exact this
    grind [usesB, bareB]
  · have hz' : (decide (1 ≤ (nd n).num) && decide ((nd n).num < (nd n).nk)) = false := by
      rw [← Bool.not_eq_true]; simp; omega
    grind
theorem fit_5 {nd : Nat → ND} {n : Nat} (h : (nd n).kind = 5) : fitK (nd n) (kfN nd n) = (inB nd n && stmtB nd n) := by
  have e1 : fitK (nd n) (kfN nd n) = (usesB (nd n) false false false false false true && (kidsC [1, 2] (nd n).nk (kfN nd n) || kidsC [1, 2, 3] (nd n).nk (kfN nd n))) := by simp [fitK, h]
  have e2 : stmtB nd n = (((((nd n).nk : Int) == 2) || (((nd n).nk : Int) == 3) && (kidK nd n 2 == 1 || kidK nd n 2 == 5)) && exprsB nd n 0 1 && kidK nd n 1 == 1 && bareB (nd n) false false false false 0) := by simp [stmtB, h]
  rw [e1, e2]
  by_cases hz : (nd n).nk = 2
  · have k0 := kid_kf nd n (i := 0) (by omega)
    have k1 := kid_kf nd n (i := 1) (by omega)
    have h3 : kidsC [1, 2, 3] (nd n).nk (kfN nd n) = false := by rw [kidsC_three, hz]; rfl
    rw [h3, Bool.or_false]
    cases hx : kidsC [1, 2] (nd n).nk (kfN nd n)
    · simp only [kidsC_two, c1, c2] at hx
      have hx2 : (exprB (kfN nd n 0) && (kfN nd n 1 == 1)) = false := by simpa [hz] using hx
      grind [exprsB, allB]
    · rw [kidsC_in hx]
      simp only [kidsC_two, c1, c2] at hx
      have hx2 : (exprB (kfN nd n 0) && (kfN nd n 1 == 1)) = true := by simpa [hz] using hx
      grind [exprsB, allB, usesB, bareB]
  · by_cases hz3 : (nd n).nk = 3
    · have k0 := kid_kf nd n (i := 0) (by omega)
      have k1 := kid_kf nd n (i := 1) (by omega)
      have k2 := kid_kf nd n (i := 2) (by omega)
      have h3 : kidsC [1, 2] (nd n).nk (kfN nd n) = false := by rw [kidsC_two, hz3]; rfl
      rw [h3, Bool.false_or]
      cases hx : kidsC [1, 2, 3] (nd n).nk (kfN nd n)
      · simp only [kidsC_three, c1, c2, c3] at hx
        have hx2 : (exprB (kfN nd n 0) && ((kfN nd n 1 == 1) && (kfN nd n 2 == 1 || kfN nd n 2 == 5))) = false := by simpa [hz3] using hx
        grind [exprsB, allB]
      · rw [kidsC_in hx]
        simp only [kidsC_three, c1, c2, c3] at hx
        have hx2 : (exprB (kfN nd n 0) && ((kfN nd n 1 == 1) && (kfN nd n 2 == 1 || kfN nd n 2 == 5))) = true := by simpa [hz3] using hx
        grind [exprsB, allB, usesB, bareB]
    · have a2 : (((nd n).nk : Int) == 2) = false := by simp; omega
      have a3 : (((nd n).nk : Int) == 3) = false := by simp; omega
      rw [kidsC_two, kidsC_three, a2, a3]; simp
end Go.Proofs.YtnokgdgikdgaeaaGreat

namespace Go.Proofs.YtnokgdgikdgaeaaGreat
open Go.RowKit

theorem fit_all (nd : Nat → ND) (n : Nat) : fitK (nd n) (kfN nd n) = (inB nd n && (if statB (nd n).kind then stmtB nd n else exprnB nd n)) := by
  rcases kinds_all (nd n).kind with h | h | h | h | h | h | h | h | h | h | h | h | h | h | h | h | h | h | h | h | h | h | h | h | h | h | h | h | h | h | h | h | h | ⟨h, _, h3⟩
  · rw [fit_1 h, if_pos (by rw [h]; rfl)]
  · rw [fit_2 h, if_pos (by rw [h]; rfl)]
  · rw [fit_3 h, if_pos (by rw [h]; rfl)]
  · rw [fit_4 h, if_pos (by rw [h]; rfl)]
  · rw [fit_14 h, if_pos (by rw [h]; rfl)]
  · rw [fit_5 h, if_pos (by rw [h]; rfl)]
  · rw [fit_6 h, if_pos (by rw [h]; rfl)]
  · rw [fit_7 h, if_pos (by rw [h]; rfl)]
  · rw [fit_8 h, if_pos (by rw [h]; rfl)]
  · rw [fit_9 h, if_pos (by rw [h]; rfl)]
  · rw [fit_10 h, if_pos (by rw [h]; rfl)]
  · rw [fit_11 h, if_pos (by rw [h]; rfl)]
  · rw [fit_12 h, if_pos (by rw [h]; rfl)]
  · rw [fit_13 h, if_pos (by rw [h]; rfl)]
  · rw [fit_20 h, if_neg (by rw [h]; decide)]
  · rw [fit_21 h, if_neg (by rw [h]; decide)]
  · rw [fit_22 h, if_neg (by rw [h]; decide)]
  · rw [fit_23 h, if_neg (by rw [h]; decide)]
  · rw [fit_24 h, if_neg (by rw [h]; decide)]
  · rw [fit_25 h, if_neg (by rw [h]; decide)]
  · rw [fit_26 h, if_neg (by rw [h]; decide)]
  · rw [fit_27 h, if_neg (by rw [h]; decide)]
  · rw [fit_28 h, if_neg (by rw [h]; decide)]
  · rw [fit_29 h, if_neg (by rw [h]; decide)]
  · rw [fit_30 h, if_neg (by rw [h]; decide)]
  · rw [fit_33 h, if_neg (by rw [h]; decide)]
  · rw [fit_31 h, if_neg (by rw [h]; decide)]
  · rw [fit_32 h, if_neg (by rw [h]; decide)]
  · rw [fit_34 h, if_neg (by rw [h]; decide)]
  · rw [fit_35 h, if_neg (by rw [h]; decide)]
  · rw [fit_36 h, if_neg (by rw [h]; decide)]
  · rw [fit_37 h, if_neg (by rw [h]; decide)]
  · rw [fit_38 h, if_neg (by rw [h]; decide)]
  · rw [h3 _ rfl]
    have n1 : (nd n).kind ≠ 1 := by intro e; rw [e] at h; exact absurd h (by decide)
    have n2 : (nd n).kind ≠ 2 := by intro e; rw [e] at h; exact absurd h (by decide)
    have n3 : (nd n).kind ≠ 3 := by intro e; rw [e] at h; exact absurd h (by decide)
    have n4 : (nd n).kind ≠ 4 := by intro e; rw [e] at h; exact absurd h (by decide)
    have n14 : (nd n).kind ≠ 14 := by intro e; rw [e] at h; exact absurd h (by decide)
    have n5 : (nd n).kind ≠ 5 := by intro e; rw [e] at h; exact absurd h (by decide)
    have n6 : (nd n).kind ≠ 6 := by intro e; rw [e] at h; exact absurd h (by decide)
    have n7 : (nd n).kind ≠ 7 := by intro e; rw [e] at h; exact absurd h (by decide)
    have n8 : (nd n).kind ≠ 8 := by intro e; rw [e] at h; exact absurd h (by decide)
    have n9 : (nd n).kind ≠ 9 := by intro e; rw [e] at h; exact absurd h (by decide)
    have n10 : (nd n).kind ≠ 10 := by intro e; rw [e] at h; exact absurd h (by decide)
    have n11 : (nd n).kind ≠ 11 := by intro e; rw [e] at h; exact absurd h (by decide)
    have n12 : (nd n).kind ≠ 12 := by intro e; rw [e] at h; exact absurd h (by decide)
    have n13 : (nd n).kind ≠ 13 := by intro e; rw [e] at h; exact absurd h (by decide)
    have n20 : (nd n).kind ≠ 20 := by intro e; rw [e] at h; exact absurd h (by decide)
    have n21 : (nd n).kind ≠ 21 := by intro e; rw [e] at h; exact absurd h (by decide)
    have n22 : (nd n).kind ≠ 22 := by intro e; rw [e] at h; exact absurd h (by decide)
    have n23 : (nd n).kind ≠ 23 := by intro e; rw [e] at h; exact absurd h (by decide)
    have n24 : (nd n).kind ≠ 24 := by intro e; rw [e] at h; exact absurd h (by decide)
    have n25 : (nd n).kind ≠ 25 := by intro e; rw [e] at h; exact absurd h (by decide)
    have n26 : (nd n).kind ≠ 26 := by intro e; rw [e] at h; exact absurd h (by decide)
    have n27 : (nd n).kind ≠ 27 := by intro e; rw [e] at h; exact absurd h (by decide)
    have n28 : (nd n).kind ≠ 28 := by intro e; rw [e] at h; exact absurd h (by decide)
    have n29 : (nd n).kind ≠ 29 := by intro e; rw [e] at h; exact absurd h (by decide)
    have n30 : (nd n).kind ≠ 30 := by intro e; rw [e] at h; exact absurd h (by decide)
    have n33 : (nd n).kind ≠ 33 := by intro e; rw [e] at h; exact absurd h (by decide)
    have n31 : (nd n).kind ≠ 31 := by intro e; rw [e] at h; exact absurd h (by decide)
    have n32 : (nd n).kind ≠ 32 := by intro e; rw [e] at h; exact absurd h (by decide)
    have n34 : (nd n).kind ≠ 34 := by intro e; rw [e] at h; exact absurd h (by decide)
    have n35 : (nd n).kind ≠ 35 := by intro e; rw [e] at h; exact absurd h (by decide)
    have n36 : (nd n).kind ≠ 36 := by intro e; rw [e] at h; exact absurd h (by decide)
    have n37 : (nd n).kind ≠ 37 := by intro e; rw [e] at h; exact absurd h (by decide)
    have n38 : (nd n).kind ≠ 38 := by intro e; rw [e] at h; exact absurd h (by decide)
    have e1 : stmtB nd n = false := by simp [stmtB, n1, n2, n3, n4, n14, n5, n6, n7, n8, n9, n10, n11, n12, n13]
    have e2 : exprnB nd n = false := by simp [exprnB, n20, n21, n22, n23, n24, n25, n26, n27, n28, n29, n30, n33, n31, n32, n34, n35, n36, n37, n38]
    rw [e1, e2]; simp

theorem formOk_eq (d : FD) (n : Nat) : formOk d n = shapeB d.nd n := by
  have e1 : formOk d n = (lineB (d.nd n) && fitB (d.nd n) (kfN d.nd n)) := rfl
  have e2 : shapeB d.nd n = (decide ((d.nd n).nk ≤ 200) && inB d.nd n && (if statB (d.nd n).kind then decide (1 ≤ (d.nd n).line) && decide ((d.nd n).line ≤ 100000) && stmtB d.nd n else (d.nd n).line == 0 && exprnB d.nd n)) := rfl
  rw [e1, e2]
  by_cases h : (d.nd n).nk ≤ 200
  · have e3 : fitB (d.nd n) (kfN d.nd n) = fitK (d.nd n) (kfN d.nd n) := by unfold fitB; rw [if_pos h]
    rw [e3, fit_all]
    unfold lineB
    cases hs : statB (d.nd n).kind
    · grind
    · grind
  · have e3 : fitB (d.nd n) (kfN d.nd n) = false := by unfold fitB; rw [if_neg h]
    rw [e3]; simp [h]

theorem findN_congr {p q : Nat → Bool} : ∀ {m i : Nat}, (∀ j, i ≤ j → j < i + m → p j = q j) → findN p i m = findN q i m
  | 0, _, _ => rfl
  | m + 1, i, h => by
    rw [findN, findN, h i (Nat.le_refl _) (by omega), findN_congr (m := m) (i := i + 1) fun j h1 h2 => h j (by omega) (by omega)]
theorem formF_eq (d : FD) : formF d = optI (findN (fun n => !shapeB d.nd n) 0 d.nn) := by
  unfold formF
  rw [findN_congr (q := fun n => !shapeB d.nd n) fun j _ _ => by rw [formOk_eq]]

theorem headF_eq (d : FD) (f : Nat) : headF d f = headB d f := by
  unfold headF headB fitsH namesB headC headZ
  have e0 : nameB d.name 0 = decide ((d.name.size : Int) ≤ 40) := by simp [nameB]
  rw [e0]
  cases hA : headA d
  · simp
  · have h0 : 0 ≤ d.params := by simp only [headA, Bool.and_eq_true, decide_eq_true_eq] at hA; exact hA.1.2
    have e1 : (d.params == 0) = decide (d.params ≤ 0) := by rw [Bool.eq_iff_iff]; simp; omega
    have e2 : ((d.nu : Int) == 0) = decide (d.nu = 0) := by rw [Bool.eq_iff_iff]; simp
    rw [e1, e2]
    grind

theorem optI_none {o : Option Nat} : optI o = -1 ↔ o = none := by
  cases o with
  | none => simp [optI]
  | some n => simp only [optI]; constructor
              · intro h; omega
              · intro h; cases h
theorem optI_inj {a b : Option Nat} (h : optI a = optI b) : a = b := by
  cases a with
  | none => exact (optI_none.1 (h.symm.trans rfl)).symm
  | some n =>
    cases b with
    | none => exact absurd (optI_none.1 h) (by simp)
    | some m => simp only [optI] at h; congr 1; omega
/-- The fns' first fault, in either form. -/
theorem ffI_eq {r : Nat → Int} {q : Nat → Option Nat} : ∀ {m f : Nat}, (∀ j, f ≤ j → j < f + m → r j = optI (q j)) → ∀ c, fltK c (ffI r f m) = fltOf c (findF q f m)
  | 0, _, _, _ => rfl
  | m + 1, f, h, c => by
    rw [ffI, findF, h f (Nat.le_refl _) (by omega)]
    cases hq : q f with
    | none => rw [if_pos (show optI none = -1 from rfl)]; exact ffI_eq (fun j h1 h2 => h j (by omega) (by omega)) c
    | some n => rw [if_neg (by simp only [optI]; omega)]; rfl
end Go.Proofs.YtnokgdgikdgaeaaGreat

namespace Go.Proofs.YtnokgdgikdgaeaaGreat
open Go.RowKit

/-- How often a node is a kid, and its parent. -/
def CP (c p : Int) : Prop := (c = 0 ∧ p = -2) ∨ (c = 1 ∧ 0 ≤ p) ∨ (2 ≤ c ∧ p = -3)
theorem cp1 (nd : Nat → ND) (c p : Nat → Int) (i : Nat) (h : ∀ k, CP (c k) (p k)) : ∀ j k, CP (cnt1 nd c i j k) (par1 nd p i j k)
  | 0, k => h k
  | j + 1, k => by
    have ih := cp1 nd c p i h j k
    simp only [cnt1, par1]
    by_cases e : (k : Int) = (nd i).kd j
    · rw [if_pos e, if_pos e]
      unfold CP at *
      by_cases e2 : par1 nd p i j k = -2
      · rw [if_pos e2]; omega
      · rw [if_neg e2]; omega
    · rw [if_neg e, if_neg e]; exact ih
theorem cpN (nd : Nat → ND) : ∀ i k, CP (cntN nd i k) (parN nd i k)
  | 0, _ => Or.inl ⟨rfl, rfl⟩
  | i + 1, k => cp1 nd _ _ i (cpN nd i) _ k

/-- What one node's parent is: by the places (q, j) that have been looked at. -/
def Uq (nd : Nat → ND) (S : Nat → Nat → Prop) (k : Nat) (p : Int) : Prop :=
  (p = -2 ∧ ∀ q j, S q j → (nd q).kd j ≠ k) ∨ (∃ q j, S q j ∧ p = (q : Int) ∧ (nd q).kd j = k ∧ ∀ q2 j2, S q2 j2 → (nd q2).kd j2 = k → q2 = q ∧ j2 = j) ∨ p = -3
theorem Uq.congr {nd : Nat → ND} {S T : Nat → Nat → Prop} {k : Nat} {p : Int} (h : Uq nd S k p) (e : ∀ q j, S q j ↔ T q j) : Uq nd T k p := by
  rcases h with ⟨h1, h2⟩ | ⟨q, j, h1, h2, h3, h4⟩ | h
  · exact Or.inl ⟨h1, fun q j hs => h2 q j ((e q j).2 hs)⟩
  · exact Or.inr (Or.inl ⟨q, j, (e q j).1 h1, h2, h3, fun q2 j2 hs => h4 q2 j2 ((e q2 j2).2 hs)⟩)
  · exact Or.inr (Or.inr h)
theorem uq1 (nd : Nat → ND) (par : Nat → Int) (i : Nat) (h : ∀ k, Uq nd (fun q j => q < i ∧ j < (nd q).nk) k (par k)) : ∀ m k, Uq nd (fun q j => (q < i ∧ j < (nd q).nk) ∨ (q = i ∧ j < m)) k (par1 nd par i m k)
  | 0, k => (h k).congr fun q j => by constructor
                                      · exact Or.inl
                                      · rintro (h | h)
                                        · exact h
                                        · omega
  | m + 1, k => by
    have ih := uq1 nd par i h m k
    simp only [par1]
    by_cases e : (k : Int) = (nd i).kd m
    · rw [if_pos e]
      rcases ih with ⟨h1, h2⟩ | ⟨q, j, h1, h2, h3, h4⟩ | h0
      · rw [if_pos h1]
        refine Or.inr (Or.inl ⟨i, m, Or.inr ⟨rfl, by omega⟩, rfl, e.symm, fun q2 j2 hs hk => ?_⟩)
        by_cases e2 : q2 = i ∧ j2 = m
        · exact e2
        · refine absurd hk (h2 q2 j2 ?_)
          rcases hs with hs | hs
          · exact Or.inl hs
          · exact Or.inr ⟨hs.1, by omega⟩
      · rw [if_neg (by omega)]; exact Or.inr (Or.inr rfl)
      · rw [if_neg (by omega)]; exact Or.inr (Or.inr rfl)
    · rw [if_neg e]
      rcases ih with ⟨h1, h2⟩ | ⟨q, j, h1, h2, h3, h4⟩ | h0
      · refine Or.inl ⟨h1, fun q j hs hk => ?_⟩
        by_cases e2 : q = i ∧ j = m
        · rw [e2.1, e2.2] at hk; exact e hk.symm
        · refine absurd hk (h2 q j ?_)
          rcases hs with hs | hs
          · exact Or.inl hs
          · exact Or.inr ⟨hs.1, by omega⟩
      · refine Or.inr (Or.inl ⟨q, j, ?_, h2, h3, fun q2 j2 hs hk => ?_⟩)
        · rcases h1 with h1 | h1
          · exact Or.inl h1
          · exact Or.inr ⟨h1.1, by omega⟩
        · by_cases e2 : q2 = i ∧ j2 = m
          · rw [e2.1, e2.2] at hk; exact absurd hk.symm e
          · refine h4 q2 j2 ?_ hk
            rcases hs with hs | hs
            · exact Or.inl hs
            · exact Or.inr ⟨hs.1, by omega⟩
      · exact Or.inr (Or.inr h0)
theorem uqN (nd : Nat → ND) : ∀ i k, Uq nd (fun q j => q < i ∧ j < (nd q).nk) k (parN nd i k)
  | 0, k => Or.inl ⟨rfl, fun q j h => by omega⟩
  | i + 1, k => (uq1 nd (parN nd i) i (uqN nd i) (nd i).nk k).congr fun q j => by
      constructor
      · rintro (h | h)
        · exact ⟨by omega, h.2⟩
        · obtain ⟨rfl, h2⟩ := h; exact ⟨by omega, h2⟩
      · rintro ⟨h1, h2⟩
        by_cases e : q = i
        · subst e; exact Or.inr ⟨rfl, h2⟩
        · exact Or.inl ⟨by omega, h2⟩

theorem findN_snoc {p : Nat → Bool} : ∀ {m i : Nat}, findN p i (m + 1) = match findN p i m with | some n => some n | none => if p (i + m) then some (i + m) else none
  | 0, i => by rw [findN, findN]; simp [findN]
  | m + 1, i => by
    rw [findN, findN_snoc (m := m) (i := i + 1)]
    rw [show findN p i (m + 1) = if p i then some i else findN p (i + 1) m from rfl]
    by_cases e : p i = true
    · simp [e]
    · simp only [e, Bool.false_eq_true, if_false]
      rw [show i + 1 + m = i + (m + 1) by omega]

/-- The last node is nobody's kid. -/
theorem last_par {d : FD} (ok : Ok3 d) : parN d.nd d.nn (d.nn - 1) = -2 := by
  have hp := ok.pos
  rcases uqN d.nd d.nn (d.nn - 1) with ⟨h1, _⟩ | ⟨q, j, h1, h2, h3, h4⟩ | h0
  · exact h1
  · have := (ok.kids q h1.1 j h1.2).2
    omega
  · rcases cpN d.nd d.nn (d.nn - 1) with h | h | h
    · exact h.2
    · omega
    · exfalso
      have key : ∀ i, i ≤ d.nn → cntN d.nd i (d.nn - 1) = 0 := by
        intro i
        induction i with
        | zero => intro _; rfl
        | succ i ih =>
          intro hi
          have h0 := ih (by omega)
          have k1 : ∀ j, j ≤ (d.nd i).nk → cnt1 d.nd (cntN d.nd i) i j (d.nn - 1) = 0 := by
            intro j
            induction j with
            | zero => intro _; exact h0
            | succ j ihj =>
              intro hj
              have := (ok.kids i (by omega) j (by omega)).2
              simp only [cnt1]
              rw [if_neg (by omega)]; exact ihj (by omega)
          exact k1 _ (Nat.le_refl _)
      have := key d.nn (Nat.le_refl _)
      omega

theorem treeF_eq {d : FD} (ok : Ok3 d) : treeF d = optI (findN (bad4 d) 0 d.nn) := by
  have hp := ok.pos
  obtain ⟨m, hm⟩ : ∃ m, d.nn = m + 1 := ⟨d.nn - 1, by omega⟩
  have hl := last_par ok
  have e1 : findN (fun n => cntN d.nd d.nn n != 1) 0 (d.nn - 1) = findN (bad4 d) 0 (d.nn - 1) := findN_congr fun j _ hj => by
    unfold bad4
    rw [if_neg (by simp; omega)]
    have e : parE d.nd d.nn j = parN d.nd d.nn j := by unfold parE; rw [if_neg (by omega)]
    rw [e, Bool.eq_iff_iff]
    have := cpN d.nd d.nn j
    unfold CP at this
    simp; omega
  have e2 : bad4 d (d.nn - 1) = ((d.nd (d.nn - 1)).kind != 1) := by
    unfold bad4
    rw [if_pos (by simp; omega)]
    have e : parE d.nd d.nn (d.nn - 1) = -1 := by unfold parE; rw [if_pos ⟨rfl, hl⟩]
    rw [e]; simp
  have e3 : findN (bad4 d) 0 d.nn = match findN (bad4 d) 0 (d.nn - 1) with | some n => some n | none => if bad4 d (d.nn - 1) then some (d.nn - 1) else none := by
    rw [hm, findN_snoc, show m + 1 - 1 = m from rfl, Nat.zero_add]
  unfold treeF
  rw [e1, e3, e2]
  cases hf : findN (bad4 d) 0 (d.nn - 1) with
  | some n => rfl
  | none =>
    simp only
    cases hk : ((d.nd (d.nn - 1)).kind != 1)
    · simp [optI]
    · simp [optI]
end Go.Proofs.YtnokgdgikdgaeaaGreat

namespace Go.Proofs.YtnokgdgikdgaeaaGreat
open Go.RowKit

/-- Codes 1 to 4 have found nothing in this fn. -/
structure Tree4 (d : FD) : Prop where
  ok : Ok3 d
  no4 : findN (bad4 d) 0 d.nn = none

theorem Tree4.up {d : FD} (t : Tree4 d) {k : Nat} (hk : k + 1 < d.nn) : ∃ q j, q < d.nn ∧ j < (d.nd q).nk ∧ parE d.nd d.nn k = (q : Int) ∧ (d.nd q).kd j = (k : Int) ∧ k < q ∧ ∀ q2 j2, q2 < d.nn → j2 < (d.nd q2).nk → (d.nd q2).kd j2 = (k : Int) → q2 = q ∧ j2 = j := by
  have hb := findN_none t.no4 k (Nat.zero_le _) (by omega)
  unfold bad4 at hb
  rw [if_neg (by simp; omega)] at hb
  have e : parE d.nd d.nn k = parN d.nd d.nn k := by unfold parE; rw [if_neg (by omega)]
  have h0 : 0 ≤ parN d.nd d.nn k := by rw [e] at hb; simpa using hb
  rcases uqN d.nd d.nn k with ⟨h1, _⟩ | ⟨q, j, h1, h2, h3, h4⟩ | h
  · omega
  · refine ⟨q, j, h1.1, h1.2, by rw [e]; exact h2, h3, ?_, fun q2 j2 hq hj => h4 q2 j2 ⟨hq, hj⟩⟩
    have := (t.ok.kids q h1.1 j h1.2).2
    omega
  · omega
theorem Tree4.last {d : FD} (t : Tree4 d) : parE d.nd d.nn (d.nn - 1) = -1 := by
  unfold parE; rw [if_pos ⟨rfl, last_par t.ok⟩]

theorem placeI_at {f : Nat → Int} {v : Int} : ∀ {m i j : Nat}, i ≤ j → j < i + m → f j = v → (∀ x, i ≤ x → x < j → f x ≠ v) → placeI f v i m = j
  | 0, i, j, h1, h2, _, _ => by omega
  | m + 1, i, j, h1, h2, h3, h4 => by
    rw [placeI]
    by_cases e : i = j
    · subst e; rw [if_pos h3]
    · rw [if_neg (h4 i (Nat.le_refl _) (by omega))]
      exact placeI_at (by omega) (by omega) h3 fun x hx hx2 => h4 x (by omega) hx2
/-- A kid knows its parent, and its place there. -/
theorem Tree4.kid {d : FD} (t : Tree4 d) {q j : Nat} (hq : q < d.nn) (hj : j < (d.nd q).nk) : parE d.nd d.nn ((d.nd q).kd j).toNat = (q : Int) ∧ placeI (d.nd q).kd ((d.nd q).kd j) 0 (d.nd q).nk = (j : Int) := by
  obtain ⟨h0, h1⟩ := t.ok.kids q hq j hj
  obtain ⟨k, hk⟩ := Int.eq_ofNat_of_zero_le h0
  have hk1 : k + 1 < d.nn := by omega
  obtain ⟨p, i, hp, hi, e1, e2, e3, e4⟩ := t.up hk1
  obtain ⟨rfl, rfl⟩ := e4 q j hq hj hk
  refine ⟨by rw [hk]; exact e1, placeI_at (Nat.zero_le _) (by omega) rfl fun x _ hx he => ?_⟩
  have := (e4 q x hq (by omega) (by rw [he, hk])).2
  omega

/-- A fn on nodes that grows by f from a parent to its kid is one. -/
theorem Tree4.down {d : FD} (t : Tree4 d) {α : Type} {A B : Nat → α} (top : A (d.nn - 1) = B (d.nn - 1)) (step : ∀ k q : Nat, k + 1 < d.nn → parE d.nd d.nn k = (q : Int) → k < q → q < d.nn → A q = B q → A k = B k) : ∀ k, k < d.nn → A k = B k := by
  have key : ∀ m k, k + m + 1 = d.nn → A k = B k := by
    intro m
    induction m using Nat.strongRecOn with
    | _ m ih =>
      intro k hk
      by_cases h0 : m = 0
      · have : k = d.nn - 1 := by omega
        rw [this]; exact top
      · obtain ⟨q, j, h1, h2, h3, h4, h5, _⟩ := t.up (k := k) (by omega)
        exact step k q (by omega) h3 h5 h1 (ih (d.nn - q - 1) (by omega) q (by omega))
  intro k hk
  exact key (d.nn - k - 1) k (by omega)

theorem depN_keep (par : Nat → Int) (n : Nat) : ∀ s m k, n ≤ k + m + 1 → m + s + 1 ≤ n → depN par n (m + s) k = depN par n m k
  | 0, m, k, _, _ => rfl
  | s + 1, m, k, h1, h2 => by
    rw [show m + (s + 1) = (m + s) + 1 by omega]
    simp only [depN]
    rw [if_neg (by omega)]
    exact depN_keep par n s m k h1 (by omega)
theorem Tree4.dep_top {d : FD} (t : Tree4 d) : depE d.nd d.nn (d.nn - 1) = 0 := by
  have hp := t.ok.pos
  unfold depE
  have := depN_keep (parE d.nd d.nn) d.nn (d.nn - 1) 0 (d.nn - 1) (by omega) (by omega)
  rw [Nat.zero_add] at this
  rw [this]; rfl
theorem dep_rec {d : FD} {k q : Nat} (hk : k + 1 < d.nn) (hq : parE d.nd d.nn k = (q : Int)) (hkq : k < q) (hqn : q < d.nn) : depE d.nd d.nn k = depE d.nd d.nn q + 1 := by
  unfold depE
  have e1 := depN_keep (parE d.nd d.nn) d.nn (d.nn - 1 - (d.nn - 1 - k)) (d.nn - 1 - k) k (by omega) (by omega)
  rw [show d.nn - 1 - k + (d.nn - 1 - (d.nn - 1 - k)) = d.nn - 1 by omega] at e1
  have e2 := depN_keep (parE d.nd d.nn) d.nn (d.nn - 1 - (d.nn - 2 - k)) (d.nn - 2 - k) q (by omega) (by omega)
  rw [show d.nn - 2 - k + (d.nn - 1 - (d.nn - 2 - k)) = d.nn - 1 by omega] at e2
  rw [e1, e2]
  rw [show d.nn - 1 - k = (d.nn - 2 - k) + 1 by omega]
  simp only [depN]
  have e3 : d.nn - 2 - (d.nn - 2 - k) = k := by omega
  rw [e3, if_pos ⟨rfl, by rw [hq]; omega⟩, hq]
  rfl

theorem dp1_self (nd : Nat → ND) (c : Nat → Int) (n : Nat) : ∀ j, (∀ i, i < j → (nd n).kd i ≠ (n : Int)) → dp1 nd c n j n = c n
  | 0, _ => rfl
  | j + 1, h => by
    simp only [dp1]
    rw [if_neg (fun e => h j (by omega) e.symm)]
    exact dp1_self nd c n j fun i hi => h i (by omega)
theorem dp1_off (nd : Nat → ND) (c : Nat → Int) (n k : Nat) : ∀ j, (∀ i, i < j → (nd n).kd i ≠ (k : Int)) → dp1 nd c n j k = c k
  | 0, _ => rfl
  | j + 1, h => by
    simp only [dp1]
    rw [if_neg (fun e => h j (by omega) e.symm)]
    exact dp1_off nd c n k j fun i hi => h i (by omega)
theorem dp1_on (nd : Nat → ND) (c : Nat → Int) (n k : Nat) : ∀ j, (∀ i, i < j → (nd n).kd i ≠ (n : Int)) → (∃ i, i < j ∧ (nd n).kd i = (k : Int)) → dp1 nd c n j k = c n + 1
  | 0, _, ⟨i, hi, _⟩ => by omega
  | j + 1, h, ⟨i, hi, hk⟩ => by
    simp only [dp1]
    by_cases e : (k : Int) = (nd n).kd j
    · rw [if_pos e, dp1_self nd c n j fun i hi => h i (by omega)]
    · rw [if_neg e]
      exact dp1_on nd c n k j (fun i hi => h i (by omega)) ⟨i, by
        by_cases e2 : i = j
        · subst e2; exact absurd hk.symm e
        · omega, hk⟩
/-- Node k's depth is as it is once all nodes above k have been walked. -/
theorem Tree4.dp_keep {d : FD} (t : Tree4 d) {k : Nat} (hk : k < d.nn) : ∀ s m, d.nn ≤ k + m + 1 → m + s ≤ d.nn → dpN d.nd d.nn (m + s) k = dpN d.nd d.nn m k
  | 0, m, _, _ => rfl
  | s + 1, m, h1, h2 => by
    rw [show m + (s + 1) = (m + s) + 1 by omega]
    simp only [dpN]
    rw [dp1_off _ _ _ _ _ fun i hi he => by
      have := (t.ok.kids _ (by omega) i hi).2
      omega]
    exact t.dp_keep hk s m h1 (by omega)
theorem Tree4.dp_rec {d : FD} (t : Tree4 d) {k q : Nat} (hk : k + 1 < d.nn) (hq : parE d.nd d.nn k = (q : Int)) (hkq : k < q) (hqn : q < d.nn) : dpN d.nd d.nn d.nn k = dpN d.nd d.nn d.nn q + 1 := by
  obtain ⟨q', j, h1, h2, h3, h4, h5, h6⟩ := t.up hk
  have eq : q' = q := by omega
  subst eq
  have a := t.dp_keep (k := q') hqn (q' + 1) (d.nn - 1 - q') (by omega) (by omega)
  rw [show d.nn - 1 - q' + (q' + 1) = d.nn by omega] at a
  rw [a]
  have b : ∀ s, d.nn - q' + s ≤ d.nn → dpN d.nd d.nn (d.nn - q' + s) k = dpN d.nd d.nn (d.nn - q') k := by
    intro s
    induction s with
    | zero => intro _; rfl
    | succ s ih =>
      intro hs
      rw [show d.nn - q' + (s + 1) = (d.nn - q' + s) + 1 by omega]
      simp only [dpN]
      rw [dp1_off _ _ _ _ _ fun i hi he => by
        have := (h6 (d.nn - 1 - (d.nn - q' + s)) i (by omega) hi he).1
        omega]
      exact ih (by omega)
  have c := b q' (by omega)
  rw [show d.nn - q' + q' = d.nn by omega] at c
  rw [c, show d.nn - q' = (d.nn - 1 - q') + 1 by omega]
  simp only [dpN]
  rw [show d.nn - 1 - (d.nn - 1 - q') = q' by omega]
  exact dp1_on _ _ _ _ _ (fun i hi he => by have := (t.ok.kids q' hqn i hi).2; omega) ⟨j, h2, h4⟩
theorem Tree4.dp_top {d : FD} (t : Tree4 d) : dpN d.nd d.nn d.nn (d.nn - 1) = 0 := by
  have hp := t.ok.pos
  have := t.dp_keep (k := d.nn - 1) (by omega) d.nn 0 (by omega) (by omega)
  rw [Nat.zero_add] at this
  rw [this]; rfl

theorem deepF_eq {d : FD} (t : Tree4 d) : deepF d = optI (findN (bad5 d) 0 d.nn) := by
  have e : ∀ k, k < d.nn → dpN d.nd d.nn d.nn k = depE d.nd d.nn k := t.down (by rw [t.dp_top, t.dep_top]) fun k q h1 h2 h3 h4 h5 => by
    rw [t.dp_rec h1 h2 h3 h4, dep_rec h1 h2 h3 h4, h5]
  unfold deepF
  rw [findN_congr (q := bad5 d) fun j _ hj => by unfold bad5; rw [e j (by omega)]]
  cases findN (bad5 d) 0 d.nn <;> rfl
end Go.Proofs.YtnokgdgikdgaeaaGreat

namespace Go.Proofs.YtnokgdgikdgaeaaGreat
open Go.RowKit

def base (d : FD) (v : Nat) : Int := if (v : Int) < d.params then 1 else 0
def placeP (d : FD) (up below : Nat) : Nat := (placeI (d.nd up).kd below 0 (d.nd up).nk).toNat
/-- What a node brings into scope at one of its kids. -/
def contr (d : FD) (up below v : Nat) : Int := if (d.nd up).kind = 1 then letS d.nv d.nd up (placeP d up below) v else if headK (d.nd up).kind = true ∧ placeP d up below + 1 = (d.nd up).nk then cntV d.nv (d.nd up).rf (d.nd up).nr v else 0
def HN (d : FD) : Nat → Nat → Nat → Int
  | 0, _, v => base d v
  | f + 1, n, v => if parE d.nd d.nn n < 0 then base d v else HN d f (parE d.nd d.nn n).toNat v + contr d (parE d.nd d.nn n).toNat n v
def HH (d : FD) (n v : Nat) : Int := HN d d.nn n v
def lup (d : FD) (up below : Nat) : Int := if loopK (d.nd up).kind = true ∧ placeP d up below + 1 = (d.nd up).nk then 1 else 0
def LN (d : FD) : Nat → Nat → Int
  | 0, _ => 0
  | f + 1, n => if parE d.nd d.nn n < 0 then 0 else LN d f (parE d.nd d.nn n).toNat + lup d (parE d.nd d.nn n).toNat n
def LL (d : FD) (n : Nat) : Int := LN d d.nn n

theorem Tree4.parOk {d : FD} (t : Tree4 d) : ParOk (parE d.nd d.nn) d.nn := parE_ok d.nd d.nn fun i hi j hj => t.ok.kids i hi j hj

theorem Tree4.HN_fuel {d : FD} (t : Tree4 d) (v : Nat) : ∀ f n, n < d.nn → d.nn ≤ n + f → HN d f n v = HN d (f + 1) n v
  | 0, n, h1, h2 => by omega
  | f + 1, n, h1, h2 => by
    rw [HN, HN]
    by_cases e : parE d.nd d.nn n < 0
    · rw [if_pos e, if_pos e]
    · rw [if_neg e, if_neg e]
      have a := t.parOk.lt n h1
      have b := t.parOk.gt n h1 (by omega)
      rw [t.HN_fuel v f (parE d.nd d.nn n).toNat (by omega) (by omega)]
theorem Tree4.LN_fuel {d : FD} (t : Tree4 d) : ∀ f n, n < d.nn → d.nn ≤ n + f → LN d f n = LN d (f + 1) n
  | 0, n, h1, h2 => by omega
  | f + 1, n, h1, h2 => by
    rw [LN, LN]
    by_cases e : parE d.nd d.nn n < 0
    · rw [if_pos e, if_pos e]
    · rw [if_neg e, if_neg e]
      have a := t.parOk.lt n h1
      have b := t.parOk.gt n h1 (by omega)
      rw [t.LN_fuel f (parE d.nd d.nn n).toNat (by omega) (by omega)]

theorem Tree4.placeP {d : FD} (t : Tree4 d) {q j : Nat} (hq : q < d.nn) (hj : j < (d.nd q).nk) : YtnokgdgikdgaeaaGreat.placeP d q ((d.nd q).kd j).toNat = j := by
  have h := (t.kid hq hj).2
  have h0 := (t.ok.kids q hq j hj).1
  unfold YtnokgdgikdgaeaaGreat.placeP
  rw [show (((d.nd q).kd j).toNat : Int) = (d.nd q).kd j by omega, h]
  rfl
theorem Tree4.eH {d : FD} (t : Tree4 d) {q j : Nat} (hq : q < d.nn) (hj : j < (d.nd q).nk) (v : Nat) : HH d ((d.nd q).kd j).toNat v = HH d q v + contr d q ((d.nd q).kd j).toNat v := by
  have h1 := (t.kid hq hj).1
  obtain ⟨h0, h2⟩ := t.ok.kids q hq j hj
  unfold HH
  obtain ⟨m, hm⟩ : ∃ m, d.nn = m + 1 := ⟨d.nn - 1, by omega⟩
  have e := t.HN_fuel v m q hq (by omega)
  rw [hm] at h1 ⊢
  rw [HN]
  rw [← hm] at h1 ⊢
  rw [h1, if_neg (by omega), show ((q : Int)).toNat = q from rfl, e, ← hm]
theorem Tree4.eL {d : FD} (t : Tree4 d) {q j : Nat} (hq : q < d.nn) (hj : j < (d.nd q).nk) : LL d ((d.nd q).kd j).toNat = LL d q + lup d q ((d.nd q).kd j).toNat := by
  have h1 := (t.kid hq hj).1
  obtain ⟨h0, h2⟩ := t.ok.kids q hq j hj
  unfold LL
  obtain ⟨m, hm⟩ : ∃ m, d.nn = m + 1 := ⟨d.nn - 1, by omega⟩
  have e := t.LN_fuel m q hq (by omega)
  rw [hm] at h1 ⊢
  rw [LN]
  rw [← hm] at h1 ⊢
  rw [h1, if_neg (by omega), show ((q : Int)).toNat = q from rfl, e, ← hm]

theorem placeP_le (d : FD) (up below : Nat) : YtnokgdgikdgaeaaGreat.placeP d up below ≤ (d.nd up).nk := by
  have := placeI_lt (d.nd up).kd below (d.nd up).nk 0
  unfold YtnokgdgikdgaeaaGreat.placeP; omega
theorem contr_le {d : FD} (ok : Ok3 d) (hk : ∀ n, n < d.nn → (d.nd n).nk ≤ 200) (hr : ∀ n, n < d.nn → (d.nd n).nr ≤ 1048576) {up : Nat} (hu : up < d.nn) (below v : Nat) : 0 ≤ contr d up below v ∧ contr d up below v ≤ 209715200 := by
  unfold contr
  have hp := placeP_le d up below
  have h200 := hk up hu
  split
  · have := letS_le d.nv d.nd up (fun j hj => hr _ (by have := ok.kids up hu j hj; omega)) (YtnokgdgikdgaeaaGreat.placeP d up below) hp v
    omega
  · split
    · have := cntV_le d.nv (d.nd up).rf (d.nd up).nr v
      have := hr up hu
      omega
    · omega
theorem HN_le {d : FD} (t : Tree4 d) (hk : ∀ n, n < d.nn → (d.nd n).nk ≤ 200) (hr : ∀ n, n < d.nn → (d.nd n).nr ≤ 1048576) (v : Nat) : ∀ f n, n < d.nn → 0 ≤ HN d f n v ∧ HN d f n v ≤ 1 + f * 209715200
  | 0, n, _ => by unfold HN base; split <;> omega
  | f + 1, n, hn => by
    rw [HN]
    split
    · unfold base; split <;> omega
    · have a := t.parOk.lt n hn
      have h1 := HN_le t hk hr v f (parE d.nd d.nn n).toNat (by omega)
      have h2 := contr_le t.ok hk hr (up := (parE d.nd d.nn n).toNat) (by omega) n v
      omega
theorem LN_le (d : FD) : ∀ f n, 0 ≤ LN d f n ∧ LN d f n ≤ f
  | 0, n => by simp [LN]
  | f + 1, n => by
    rw [LN]
    split
    · omega
    · have := LN_le d f (parE d.nd d.nn n).toNat
      unfold lup; split <;> omega

theorem two_kids {nd : Nat → ND} {n : Nat} (h : shapeB nd n = true) (hk : (nd n).kind = 6 ∨ (nd n).kind = 8 ∨ (nd n).kind = 12) : (nd n).nk = 2 := by
  have hs : statB (nd n).kind = true := by rcases hk with e | e | e <;> rw [e] <;> decide
  have he := (shape_stmt h hs).2.2
  unfold stmtB at he
  rcases hk with e | e | e <;> simp [e] at he <;> omega
theorem four_kids {nd : Nat → ND} {n : Nat} (h : shapeB nd n = true) (hk : (nd n).kind = 7) : (nd n).nk = 4 := by
  have hs : statB (nd n).kind = true := by rw [hk]; decide
  have he := (shape_stmt h hs).2.2
  unfold stmtB at he
  simp [hk] at he; omega
theorem leaf_kids {nd : Nat → ND} {n : Nat} (h : shapeB nd n = true) (hk : (nd n).kind = 26 ∨ (nd n).kind = 36) : (nd n).nk = 0 := by
  have hs : statB (nd n).kind = false := by rcases hk with e | e <;> rw [e] <;> decide
  have he := (shape_expr h hs).2
  unfold exprnB at he
  rcases hk with e | e <;> simp [e] at he <;> omega
theorem shape_nk {nd : Nat → ND} {n : Nat} (h : shapeB nd n = true) : (nd n).nk ≤ 200 := by
  simp only [shapeB, Bool.and_eq_true, decide_eq_true_eq] at h
  exact h.1.1

theorem facts_of {d : FD} {f : Nat} (hh : headB d f = true) (hs : ∀ n, n < d.nn → shapeB d.nd n = true) (h4 : findN (bad4 d) 0 d.nn = none) (hn : d.nn ≤ 3000) (hr : ∀ n, n < d.nn → (d.nd n).nr ≤ 1048576) : Facts d (HH d) (LL d) := by
  simp only [headB, headA, Bool.and_eq_true, decide_eq_true_eq] at hh
  have ok : Ok3 d := ⟨hh.1.1.1.1.1.1, fun i hi => shape_kids (hs i hi)⟩
  have t : Tree4 d := ⟨ok, h4⟩
  have hp := ok.pos
  have h200 : ∀ n, n < d.nn → (d.nd n).nk ≤ 200 := fun n hn' => shape_nk (hs n hn')
  exact {
    pos := hp
    par0 := hh.1.1.1.2
    par1 := hh.1.1.2
    nk := h200
    kids := ok.kids
    k2 := fun n hn' hk => two_kids (hs n hn') hk
    k4 := fun n hn' hk => four_kids (hs n hn') hk
    r1 := fun n hn' hk => ⟨one_ref (hs n hn') (by omega), leaf_kids (hs n hn') hk⟩
    hL := fun n _ => by have := LN_le d d.nn n; unfold LL; omega
    hH := fun n hn' v => by have := HN_le t h200 hr v d.nn n hn'; unfold HH; omega
    eL := fun n hn' j hj => by rw [t.eL hn' hj]; unfold lup; rw [t.placeP hn' hj]
    eH := fun n hn' j hj v _ => by rw [t.eH hn' hj]; unfold contr; rw [t.placeP hn' hj]
    top := by
      unfold LL
      obtain ⟨m, hm⟩ : ∃ m, d.nn = m + 1 := ⟨d.nn - 1, by omega⟩
      have := t.last
      rw [hm] at this ⊢
      rw [LN, ← hm]; rw [← hm] at this; rw [this]; rfl
    topH := fun v _ => by
      unfold HH
      obtain ⟨m, hm⟩ : ∃ m, d.nn = m + 1 := ⟨d.nn - 1, by omega⟩
      have := t.last
      rw [hm] at this ⊢
      rw [HN, ← hm]; rw [← hm] at this; rw [this]; rfl
    par := fun n hn' => by
      obtain ⟨q, j, h1, h2, _, h4', _⟩ := t.up hn'
      exact ⟨q, h1, j, h2, h4'⟩ }
end Go.Proofs.YtnokgdgikdgaeaaGreat
