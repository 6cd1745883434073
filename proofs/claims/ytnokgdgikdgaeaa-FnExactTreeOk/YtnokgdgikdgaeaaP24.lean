import Derived.Test.YtnokgdgikdgaeaaP23
namespace Go.Proofs.Ytnokgdgikdgaeaa
open Go.RowKit

/-- Kid j of a part at i stands ahead of it. -/
def inB (d : PD) (i j : Nat) : Bool := decide (0 ≤ d.kd j) && decide (d.kd j < (i : Int))
theorem hasR_zero (r : Int) (h : r = 1 ∨ r = 2 ∨ r = 4 ∨ r = 8 ∨ r = 16 ∨ r = 32 ∨ r = 64 ∨ r = 128 ∨ r = 256 ∨ r = 512) : hasR 0 r = false := by
  rcases h with rfl | rfl | rfl | rfl | rfl | rfl | rfl | rfl | rfl | rfl <;> decide
def cls1 (k : Int) : Bool := statP k
theorem role_1 (k : Int) : hasR (roleK k) 1 = cls1 k := by
  unfold cls1
  rcases kinds_all k with h | h | h | h | h | h | h | h | h | h | h | h | h | h | h | h | h | h | h | h | h | h | h | h | h | h | h | h | h | h | h | h | h | h | h | h | h | ⟨_, h2, h3⟩
  all_goals first | (subst h; decide) | skip
  · rw [h2, hasR_zero 1 (by simp)]
    obtain ⟨e1, e2, e3, e4, e5, e6, e16, e7, e8, e9, e10, e11, e12, e13, e14, e15, e20, e21, e22, e23, e24, e25, e26, e27, e28, e29, e30, e31, e32, e33, e34, e35, e36, e37, e40, e41, e42⟩ := h3
    symm
    rw [← Bool.not_eq_true]
    simp [statP]
    omega
def cls2 (k : Int) : Bool := (k == 1)
theorem role_2 (k : Int) : hasR (roleK k) 2 = cls2 k := by
  unfold cls2
  rcases kinds_all k with h | h | h | h | h | h | h | h | h | h | h | h | h | h | h | h | h | h | h | h | h | h | h | h | h | h | h | h | h | h | h | h | h | h | h | h | h | ⟨_, h2, h3⟩
  all_goals first | (subst h; decide) | skip
  · rw [h2, hasR_zero 2 (by simp)]
    obtain ⟨e1, e2, e3, e4, e5, e6, e16, e7, e8, e9, e10, e11, e12, e13, e14, e15, e20, e21, e22, e23, e24, e25, e26, e27, e28, e29, e30, e31, e32, e33, e34, e35, e36, e37, e40, e41, e42⟩ := h3
    symm
    rw [← Bool.not_eq_true]
    simp
    omega
def cls4 (k : Int) : Bool := (k == 1 || k == 7)
theorem role_4 (k : Int) : hasR (roleK k) 4 = cls4 k := by
  unfold cls4
  rcases kinds_all k with h | h | h | h | h | h | h | h | h | h | h | h | h | h | h | h | h | h | h | h | h | h | h | h | h | h | h | h | h | h | h | h | h | h | h | h | h | ⟨_, h2, h3⟩
  all_goals first | (subst h; decide) | skip
  · rw [h2, hasR_zero 4 (by simp)]
    obtain ⟨e1, e2, e3, e4, e5, e6, e16, e7, e8, e9, e10, e11, e12, e13, e14, e15, e20, e21, e22, e23, e24, e25, e26, e27, e28, e29, e30, e31, e32, e33, e34, e35, e36, e37, e40, e41, e42⟩ := h3
    symm
    rw [← Bool.not_eq_true]
    simp
    omega
def cls8 (k : Int) : Bool := exprP k
theorem role_8 (k : Int) : hasR (roleK k) 8 = cls8 k := by
  unfold cls8
  rcases kinds_all k with h | h | h | h | h | h | h | h | h | h | h | h | h | h | h | h | h | h | h | h | h | h | h | h | h | h | h | h | h | h | h | h | h | h | h | h | h | ⟨_, h2, h3⟩
  all_goals first | (subst h; decide) | skip
  · rw [h2, hasR_zero 8 (by simp)]
    obtain ⟨e1, e2, e3, e4, e5, e6, e16, e7, e8, e9, e10, e11, e12, e13, e14, e15, e20, e21, e22, e23, e24, e25, e26, e27, e28, e29, e30, e31, e32, e33, e34, e35, e36, e37, e40, e41, e42⟩ := h3
    symm
    rw [← Bool.not_eq_true]
    simp [exprP]
    omega
def cls16 (k : Int) : Bool := (exprP k && !(k == 27))
theorem role_16 (k : Int) : hasR (roleK k) 16 = cls16 k := by
  unfold cls16
  rcases kinds_all k with h | h | h | h | h | h | h | h | h | h | h | h | h | h | h | h | h | h | h | h | h | h | h | h | h | h | h | h | h | h | h | h | h | h | h | h | h | ⟨_, h2, h3⟩
  all_goals first | (subst h; decide) | skip
  · rw [h2, hasR_zero 16 (by simp)]
    obtain ⟨e1, e2, e3, e4, e5, e6, e16, e7, e8, e9, e10, e11, e12, e13, e14, e15, e20, e21, e22, e23, e24, e25, e26, e27, e28, e29, e30, e31, e32, e33, e34, e35, e36, e37, e40, e41, e42⟩ := h3
    symm
    rw [← Bool.not_eq_true]
    simp [exprP]
    omega
def cls32 (k : Int) : Bool := (k == 34)
theorem role_32 (k : Int) : hasR (roleK k) 32 = cls32 k := by
  unfold cls32
  rcases kinds_all k with h | h | h | h | h | h | h | h | h | h | h | h | h | h | h | h | h | h | h | h | h | h | h | h | h | h | h | h | h | h | h | h | h | h | h | h | h | ⟨_, h2, h3⟩
  all_goals first | (subst h; decide) | skip
  · rw [h2, hasR_zero 32 (by simp)]
    obtain ⟨e1, e2, e3, e4, e5, e6, e16, e7, e8, e9, e10, e11, e12, e13, e14, e15, e20, e21, e22, e23, e24, e25, e26, e27, e28, e29, e30, e31, e32, e33, e34, e35, e36, e37, e40, e41, e42⟩ := h3
    symm
    rw [← Bool.not_eq_true]
    simp
    omega
def cls64 (k : Int) : Bool := (k == 34 || k == 27)
theorem role_64 (k : Int) : hasR (roleK k) 64 = cls64 k := by
  unfold cls64
  rcases kinds_all k with h | h | h | h | h | h | h | h | h | h | h | h | h | h | h | h | h | h | h | h | h | h | h | h | h | h | h | h | h | h | h | h | h | h | h | h | h | ⟨_, h2, h3⟩
  all_goals first | (subst h; decide) | skip
  · rw [h2, hasR_zero 64 (by simp)]
    obtain ⟨e1, e2, e3, e4, e5, e6, e16, e7, e8, e9, e10, e11, e12, e13, e14, e15, e20, e21, e22, e23, e24, e25, e26, e27, e28, e29, e30, e31, e32, e33, e34, e35, e36, e37, e40, e41, e42⟩ := h3
    symm
    rw [← Bool.not_eq_true]
    simp
    omega
def cls128 (k : Int) : Bool := targetP k
theorem role_128 (k : Int) : hasR (roleK k) 128 = cls128 k := by
  unfold cls128
  rcases kinds_all k with h | h | h | h | h | h | h | h | h | h | h | h | h | h | h | h | h | h | h | h | h | h | h | h | h | h | h | h | h | h | h | h | h | h | h | h | h | ⟨_, h2, h3⟩
  all_goals first | (subst h; decide) | skip
  · rw [h2, hasR_zero 128 (by simp)]
    obtain ⟨e1, e2, e3, e4, e5, e6, e16, e7, e8, e9, e10, e11, e12, e13, e14, e15, e20, e21, e22, e23, e24, e25, e26, e27, e28, e29, e30, e31, e32, e33, e34, e35, e36, e37, e40, e41, e42⟩ := h3
    symm
    rw [← Bool.not_eq_true]
    simp [targetP]
    omega
def cls256 (k : Int) : Bool := (k == 36)
theorem role_256 (k : Int) : hasR (roleK k) 256 = cls256 k := by
  unfold cls256
  rcases kinds_all k with h | h | h | h | h | h | h | h | h | h | h | h | h | h | h | h | h | h | h | h | h | h | h | h | h | h | h | h | h | h | h | h | h | h | h | h | h | ⟨_, h2, h3⟩
  all_goals first | (subst h; decide) | skip
  · rw [h2, hasR_zero 256 (by simp)]
    obtain ⟨e1, e2, e3, e4, e5, e6, e16, e7, e8, e9, e10, e11, e12, e13, e14, e15, e20, e21, e22, e23, e24, e25, e26, e27, e28, e29, e30, e31, e32, e33, e34, e35, e36, e37, e40, e41, e42⟩ := h3
    symm
    rw [← Bool.not_eq_true]
    simp
    omega
def cls512 (k : Int) : Bool := entryP k
theorem role_512 (k : Int) : hasR (roleK k) 512 = cls512 k := by
  unfold cls512
  rcases kinds_all k with h | h | h | h | h | h | h | h | h | h | h | h | h | h | h | h | h | h | h | h | h | h | h | h | h | h | h | h | h | h | h | h | h | h | h | h | h | ⟨_, h2, h3⟩
  all_goals first | (subst h; decide) | skip
  · rw [h2, hasR_zero 512 (by simp)]
    obtain ⟨e1, e2, e3, e4, e5, e6, e16, e7, e8, e9, e10, e11, e12, e13, e14, e15, e20, e21, e22, e23, e24, e25, e26, e27, e28, e29, e30, e31, e32, e33, e34, e35, e36, e37, e40, e41, e42⟩ := h3
    symm
    rw [← Bool.not_eq_true]
    simp [entryP]
    omega

/-- What the kids of part i may stand as, when all ahead of it are slim. -/
structure Kin (pd : Nat → PD) (d : PD) (i : Nat) (q : Nat → Option PX) : Prop where
  h1 : ∀ j, hasR (roleO (q j)) 1 = (inB d i j && cls1 (kidP pd d j))
  h2 : ∀ j, hasR (roleO (q j)) 2 = (inB d i j && cls2 (kidP pd d j))
  h4 : ∀ j, hasR (roleO (q j)) 4 = (inB d i j && cls4 (kidP pd d j))
  h8 : ∀ j, hasR (roleO (q j)) 8 = (inB d i j && cls8 (kidP pd d j))
  h16 : ∀ j, hasR (roleO (q j)) 16 = (inB d i j && cls16 (kidP pd d j))
  h32 : ∀ j, hasR (roleO (q j)) 32 = (inB d i j && cls32 (kidP pd d j))
  h64 : ∀ j, hasR (roleO (q j)) 64 = (inB d i j && cls64 (kidP pd d j))
  h128 : ∀ j, hasR (roleO (q j)) 128 = (inB d i j && cls128 (kidP pd d j))
  h256 : ∀ j, hasR (roleO (q j)) 256 = (inB d i j && cls256 (kidP pd d j))
  h512 : ∀ j, hasR (roleO (q j)) 512 = (inB d i j && cls512 (kidP pd d j))
theorem kin_of (pm : Nat → PM) (pk : Nat → Option Addr) (d : PD) (i : Nat) (hs : ∀ j, j < i → slimP (pm j).toPD) : Kin (pdOf pm) d i (kidX d (pxOf pm pk) i) := by
  have go : ∀ j r, (r = 1 ∨ r = 2 ∨ r = 4 ∨ r = 8 ∨ r = 16 ∨ r = 32 ∨ r = 64 ∨ r = 128 ∨ r = 256 ∨ r = 512) → hasR (roleO (kidX d (pxOf pm pk) i j)) r = (inB d i j && hasR (roleK (kidP (pdOf pm) d j)) r) := by
    intro j r hr
    unfold kidX inB
    by_cases h : 0 ≤ d.kd j ∧ d.kd j < i
    · rw [if_pos h, decide_eq_true h.1, decide_eq_true h.2]
      have : roleO (some (pxOf pm pk (d.kd j).toNat)) = roleK (kidP (pdOf pm) d j) := by
        show roleP (pm (d.kd j).toNat).toPD = _
        unfold roleP; rw [if_pos (hs _ (by omega))]; rfl
      rw [this]; rfl
    · rw [if_neg h]
      have : (decide (0 ≤ d.kd j) && decide (d.kd j < (i : Int))) = false := by
        rw [← Bool.not_eq_true]; simp; omega
      rw [this]; exact hasR_zero r hr
  exact ⟨fun j => by rw [go j 1 (by simp), role_1], fun j => by rw [go j 2 (by simp), role_2], fun j => by rw [go j 4 (by simp), role_4], fun j => by rw [go j 8 (by simp), role_8], fun j => by rw [go j 16 (by simp), role_16], fun j => by rw [go j 32 (by simp), role_32], fun j => by rw [go j 64 (by simp), role_64], fun j => by rw [go j 128 (by simp), role_128], fun j => by rw [go j 256 (by simp), role_256], fun j => by rw [go j 512 (by simp), role_512]⟩
theorem allB_and (f g : Nat → Bool) : ∀ n i, allB (fun j => f j && g j) i n = (allB f i n && allB g i n)
  | 0, _ => rfl
  | n + 1, i => by
    simp only [allB]
    rw [allB_and f g n (i + 1)]
    cases f i <;> cases g i <;> cases allB f (i + 1) n <;> cases allB g (i + 1) n <;> rfl
theorem allB_shift (f : Nat → Bool) : ∀ n i t, allB (fun j => f (t + j)) i n = allB f (t + i) n
  | 0, _, _ => rfl
  | n + 1, i, t => by
    simp only [allB]
    rw [allB_shift f n (i + 1) t]; rfl
theorem allB_parts (f : Nat → Bool) : ∀ a b i, allB f i (a + b) = (allB f i a && allB f (i + a) b)
  | 0, b, i => by simp [allB]
  | a + 1, b, i => by
    rw [show a + 1 + b = (a + b) + 1 by omega]
    simp only [allB]
    rw [allB_parts f a b (i + 1), show i + 1 + a = i + (a + 1) by omega, Bool.and_assoc]
theorem kidsIn_eq (d : PD) (i : Nat) : kidsIn d i = allB (inB d i) 0 d.nk := rfl
theorem uses_bare (d : PD) (o n t m : Bool) : usesP d o n false t m = bareP d o n t m := rfl
theorem fzero_zero : fzero 0 = true := by decide
theorem uses_flt (d : PD) : usesP d false false true false false = bareP { d with flt := 0 } false false false false := by
  unfold usesP bareP
  simp only [fzero_zero]; rfl
theorem decl_eq (d : PD) (a b : Nat) : declP d a b = (bareP d false false false true && namedP d a b) := by
  unfold declP namedP
  rw [uses_bare]
  have e1 : decide ((a : Int) ≤ d.nn) = decide (a ≤ d.nn) := by simp
  have e2 : decide ((d.nn : Int) ≤ b) = decide (d.nn ≤ b) := by simp
  rw [e1, e2, Bool.and_assoc]
theorem kids0 {pd : Nat → PD} {d : PD} {i : Nat} {q : Nat → Option PX} (_h : Kin pd d i q) : kidsR [] d.nk q = decide (d.nk = 0) := by
  unfold kidsR
  by_cases e : d.nk = 0
  · rw [e]; rfl
  · rw [decide_eq_false e, beq_false_of_ne (show (d.nk : Int) ≠ ((([] : List Int).length : Nat) : Int) by simp; omega)]; rfl
theorem kids_8 {pd : Nat → PD} {d : PD} {i : Nat} {q : Nat → Option PX} (h : Kin pd d i q) : kidsR [8] d.nk q = (decide (d.nk = 1) && (allB (inB d i) 0 d.nk && (cls8 (kidP pd d 0)))) := by
  by_cases e : d.nk = 1
  · have e0 : kidsR [8] d.nk q = (hasR (roleO (q 0)) 8) := by rw [e]; unfold kidsR; simp [allB, classF]
    rw [e0, h.h8 0, e]
    simp only [allB, decide_true]
    generalize inB d i 0 = a0
    generalize cls8 (kidP pd d 0) = b0
    revert a0 b0
    decide
  · rw [decide_eq_false e]
    unfold kidsR
    rw [beq_false_of_ne (show (d.nk : Int) ≠ (([8] : List Int).length : Nat) by simp; omega)]; rfl
theorem kids_256 {pd : Nat → PD} {d : PD} {i : Nat} {q : Nat → Option PX} (h : Kin pd d i q) : kidsR [256] d.nk q = (decide (d.nk = 1) && (allB (inB d i) 0 d.nk && (cls256 (kidP pd d 0)))) := by
  by_cases e : d.nk = 1
  · have e0 : kidsR [256] d.nk q = (hasR (roleO (q 0)) 256) := by rw [e]; unfold kidsR; simp [allB, classF]
    rw [e0, h.h256 0, e]
    simp only [allB, decide_true]
    generalize inB d i 0 = a0
    generalize cls256 (kidP pd d 0) = b0
    revert a0 b0
    decide
  · rw [decide_eq_false e]
    unfold kidsR
    rw [beq_false_of_ne (show (d.nk : Int) ≠ (([256] : List Int).length : Nat) by simp; omega)]; rfl
theorem kids_32 {pd : Nat → PD} {d : PD} {i : Nat} {q : Nat → Option PX} (h : Kin pd d i q) : kidsR [32] d.nk q = (decide (d.nk = 1) && (allB (inB d i) 0 d.nk && (cls32 (kidP pd d 0)))) := by
  by_cases e : d.nk = 1
  · have e0 : kidsR [32] d.nk q = (hasR (roleO (q 0)) 32) := by rw [e]; unfold kidsR; simp [allB, classF]
    rw [e0, h.h32 0, e]
    simp only [allB, decide_true]
    generalize inB d i 0 = a0
    generalize cls32 (kidP pd d 0) = b0
    revert a0 b0
    decide
  · rw [decide_eq_false e]
    unfold kidsR
    rw [beq_false_of_ne (show (d.nk : Int) ≠ (([32] : List Int).length : Nat) by simp; omega)]; rfl
theorem kids_8_2 {pd : Nat → PD} {d : PD} {i : Nat} {q : Nat → Option PX} (h : Kin pd d i q) : kidsR [8, 2] d.nk q = (decide (d.nk = 2) && (allB (inB d i) 0 d.nk && (cls8 (kidP pd d 0) && cls2 (kidP pd d 1)))) := by
  by_cases e : d.nk = 2
  · have e0 : kidsR [8, 2] d.nk q = (hasR (roleO (q 0)) 8 && (hasR (roleO (q 1)) 2)) := by rw [e]; unfold kidsR; simp [allB, classF]
    rw [e0, h.h8 0, h.h2 1, e]
    simp only [allB, decide_true]
    generalize inB d i 0 = a0
    generalize inB d i 1 = a1
    generalize cls8 (kidP pd d 0) = b0
    generalize cls2 (kidP pd d 1) = b1
    revert a0 b0 a1 b1
    decide
  · rw [decide_eq_false e]
    unfold kidsR
    rw [beq_false_of_ne (show (d.nk : Int) ≠ (([8, 2] : List Int).length : Nat) by simp; omega)]; rfl
theorem kids_8_2_4 {pd : Nat → PD} {d : PD} {i : Nat} {q : Nat → Option PX} (h : Kin pd d i q) : kidsR [8, 2, 4] d.nk q = (decide (d.nk = 3) && (allB (inB d i) 0 d.nk && (cls8 (kidP pd d 0) && cls2 (kidP pd d 1) && cls4 (kidP pd d 2)))) := by
  by_cases e : d.nk = 3
  · have e0 : kidsR [8, 2, 4] d.nk q = (hasR (roleO (q 0)) 8 && (hasR (roleO (q 1)) 2 && (hasR (roleO (q 2)) 4))) := by rw [e]; unfold kidsR; simp [allB, classF]
    rw [e0, h.h8 0, h.h2 1, h.h4 2, e]
    simp only [allB, decide_true]
    generalize inB d i 0 = a0
    generalize inB d i 1 = a1
    generalize inB d i 2 = a2
    generalize cls8 (kidP pd d 0) = b0
    generalize cls2 (kidP pd d 1) = b1
    generalize cls4 (kidP pd d 2) = b2
    revert a0 b0 a1 b1 a2 b2
    decide
  · rw [decide_eq_false e]
    unfold kidsR
    rw [beq_false_of_ne (show (d.nk : Int) ≠ (([8, 2, 4] : List Int).length : Nat) by simp; omega)]; rfl
theorem kids_8_8_2 {pd : Nat → PD} {d : PD} {i : Nat} {q : Nat → Option PX} (h : Kin pd d i q) : kidsR [8, 8, 2] d.nk q = (decide (d.nk = 3) && (allB (inB d i) 0 d.nk && (cls8 (kidP pd d 0) && cls8 (kidP pd d 1) && cls2 (kidP pd d 2)))) := by
  by_cases e : d.nk = 3
  · have e0 : kidsR [8, 8, 2] d.nk q = (hasR (roleO (q 0)) 8 && (hasR (roleO (q 1)) 8 && (hasR (roleO (q 2)) 2))) := by rw [e]; unfold kidsR; simp [allB, classF]
    rw [e0, h.h8 0, h.h8 1, h.h2 2, e]
    simp only [allB, decide_true]
    generalize inB d i 0 = a0
    generalize inB d i 1 = a1
    generalize inB d i 2 = a2
    generalize cls8 (kidP pd d 0) = b0
    generalize cls8 (kidP pd d 1) = b1
    generalize cls2 (kidP pd d 2) = b2
    revert a0 b0 a1 b1 a2 b2
    decide
  · rw [decide_eq_false e]
    unfold kidsR
    rw [beq_false_of_ne (show (d.nk : Int) ≠ (([8, 8, 2] : List Int).length : Nat) by simp; omega)]; rfl
theorem kids_8_8_8_2 {pd : Nat → PD} {d : PD} {i : Nat} {q : Nat → Option PX} (h : Kin pd d i q) : kidsR [8, 8, 8, 2] d.nk q = (decide (d.nk = 4) && (allB (inB d i) 0 d.nk && (cls8 (kidP pd d 0) && cls8 (kidP pd d 1) && cls8 (kidP pd d 2) && cls2 (kidP pd d 3)))) := by
  by_cases e : d.nk = 4
  · have e0 : kidsR [8, 8, 8, 2] d.nk q = (hasR (roleO (q 0)) 8 && (hasR (roleO (q 1)) 8 && (hasR (roleO (q 2)) 8 && (hasR (roleO (q 3)) 2)))) := by rw [e]; unfold kidsR; simp [allB, classF]
    rw [e0, h.h8 0, h.h8 1, h.h8 2, h.h2 3, e]
    simp only [allB, decide_true]
    generalize inB d i 0 = a0
    generalize inB d i 1 = a1
    generalize inB d i 2 = a2
    generalize inB d i 3 = a3
    generalize cls8 (kidP pd d 0) = b0
    generalize cls8 (kidP pd d 1) = b1
    generalize cls8 (kidP pd d 2) = b2
    generalize cls2 (kidP pd d 3) = b3
    revert a0 b0 a1 b1 a2 b2 a3 b3
    decide
  · rw [decide_eq_false e]
    unfold kidsR
    rw [beq_false_of_ne (show (d.nk : Int) ≠ (([8, 8, 8, 2] : List Int).length : Nat) by simp; omega)]; rfl
theorem kids_2_2 {pd : Nat → PD} {d : PD} {i : Nat} {q : Nat → Option PX} (h : Kin pd d i q) : kidsR [2, 2] d.nk q = (decide (d.nk = 2) && (allB (inB d i) 0 d.nk && (cls2 (kidP pd d 0) && cls2 (kidP pd d 1)))) := by
  by_cases e : d.nk = 2
  · have e0 : kidsR [2, 2] d.nk q = (hasR (roleO (q 0)) 2 && (hasR (roleO (q 1)) 2)) := by rw [e]; unfold kidsR; simp [allB, classF]
    rw [e0, h.h2 0, h.h2 1, e]
    simp only [allB, decide_true]
    generalize inB d i 0 = a0
    generalize inB d i 1 = a1
    generalize cls2 (kidP pd d 0) = b0
    generalize cls2 (kidP pd d 1) = b1
    revert a0 b0 a1 b1
    decide
  · rw [decide_eq_false e]
    unfold kidsR
    rw [beq_false_of_ne (show (d.nk : Int) ≠ (([2, 2] : List Int).length : Nat) by simp; omega)]; rfl
theorem kids_8_8 {pd : Nat → PD} {d : PD} {i : Nat} {q : Nat → Option PX} (h : Kin pd d i q) : kidsR [8, 8] d.nk q = (decide (d.nk = 2) && (allB (inB d i) 0 d.nk && (cls8 (kidP pd d 0) && cls8 (kidP pd d 1)))) := by
  by_cases e : d.nk = 2
  · have e0 : kidsR [8, 8] d.nk q = (hasR (roleO (q 0)) 8 && (hasR (roleO (q 1)) 8)) := by rw [e]; unfold kidsR; simp [allB, classF]
    rw [e0, h.h8 0, h.h8 1, e]
    simp only [allB, decide_true]
    generalize inB d i 0 = a0
    generalize inB d i 1 = a1
    generalize cls8 (kidP pd d 0) = b0
    generalize cls8 (kidP pd d 1) = b1
    revert a0 b0 a1 b1
    decide
  · rw [decide_eq_false e]
    unfold kidsR
    rw [beq_false_of_ne (show (d.nk : Int) ≠ (([8, 8] : List Int).length : Nat) by simp; omega)]; rfl
theorem kids_16_8 {pd : Nat → PD} {d : PD} {i : Nat} {q : Nat → Option PX} (h : Kin pd d i q) : kidsR [16, 8] d.nk q = (decide (d.nk = 2) && (allB (inB d i) 0 d.nk && (cls16 (kidP pd d 0) && cls8 (kidP pd d 1)))) := by
  by_cases e : d.nk = 2
  · have e0 : kidsR [16, 8] d.nk q = (hasR (roleO (q 0)) 16 && (hasR (roleO (q 1)) 8)) := by rw [e]; unfold kidsR; simp [allB, classF]
    rw [e0, h.h16 0, h.h8 1, e]
    simp only [allB, decide_true]
    generalize inB d i 0 = a0
    generalize inB d i 1 = a1
    generalize cls16 (kidP pd d 0) = b0
    generalize cls8 (kidP pd d 1) = b1
    revert a0 b0 a1 b1
    decide
  · rw [decide_eq_false e]
    unfold kidsR
    rw [beq_false_of_ne (show (d.nk : Int) ≠ (([16, 8] : List Int).length : Nat) by simp; omega)]; rfl
theorem kids_16 {pd : Nat → PD} {d : PD} {i : Nat} {q : Nat → Option PX} (h : Kin pd d i q) : kidsR [16] d.nk q = (decide (d.nk = 1) && (allB (inB d i) 0 d.nk && (cls16 (kidP pd d 0)))) := by
  by_cases e : d.nk = 1
  · have e0 : kidsR [16] d.nk q = (hasR (roleO (q 0)) 16) := by rw [e]; unfold kidsR; simp [allB, classF]
    rw [e0, h.h16 0, e]
    simp only [allB, decide_true]
    generalize inB d i 0 = a0
    generalize cls16 (kidP pd d 0) = b0
    revert a0 b0
    decide
  · rw [decide_eq_false e]
    unfold kidsR
    rw [beq_false_of_ne (show (d.nk : Int) ≠ (([16] : List Int).length : Nat) by simp; omega)]; rfl
theorem kids_2 {pd : Nat → PD} {d : PD} {i : Nat} {q : Nat → Option PX} (h : Kin pd d i q) : kidsR [2] d.nk q = (decide (d.nk = 1) && (allB (inB d i) 0 d.nk && (cls2 (kidP pd d 0)))) := by
  by_cases e : d.nk = 1
  · have e0 : kidsR [2] d.nk q = (hasR (roleO (q 0)) 2) := by rw [e]; unfold kidsR; simp [allB, classF]
    rw [e0, h.h2 0, e]
    simp only [allB, decide_true]
    generalize inB d i 0 = a0
    generalize cls2 (kidP pd d 0) = b0
    revert a0 b0
    decide
  · rw [decide_eq_false e]
    unfold kidsR
    rw [beq_false_of_ne (show (d.nk : Int) ≠ (([2] : List Int).length : Nat) by simp; omega)]; rfl
theorem kids_64 {pd : Nat → PD} {d : PD} {i : Nat} {q : Nat → Option PX} (h : Kin pd d i q) : kidsR [64] d.nk q = (decide (d.nk = 1) && (allB (inB d i) 0 d.nk && (cls64 (kidP pd d 0)))) := by
  by_cases e : d.nk = 1
  · have e0 : kidsR [64] d.nk q = (hasR (roleO (q 0)) 64) := by rw [e]; unfold kidsR; simp [allB, classF]
    rw [e0, h.h64 0, e]
    simp only [allB, decide_true]
    generalize inB d i 0 = a0
    generalize cls64 (kidP pd d 0) = b0
    revert a0 b0
    decide
  · rw [decide_eq_false e]
    unfold kidsR
    rw [beq_false_of_ne (show (d.nk : Int) ≠ (([64] : List Int).length : Nat) by simp; omega)]; rfl
theorem stand_eq1 {pd : Nat → PD} {d : PD} {i : Nat} {q : Nat → Option PX} (h : Kin pd d i q) : standR 1 d.nk q = (allB (inB d i) 0 d.nk && allB (fun j => cls1 (kidP pd d j)) 0 d.nk) := by
  unfold standR; simp only [h.h1]; exact allB_and _ _ _ _
theorem stand_eq8 {pd : Nat → PD} {d : PD} {i : Nat} {q : Nat → Option PX} (h : Kin pd d i q) : standR 8 d.nk q = (allB (inB d i) 0 d.nk && allB (fun j => cls8 (kidP pd d j)) 0 d.nk) := by
  unfold standR; simp only [h.h8]; exact allB_and _ _ _ _
theorem stand_eq512 {pd : Nat → PD} {d : PD} {i : Nat} {q : Nat → Option PX} (h : Kin pd d i q) : standR 512 d.nk q = (allB (inB d i) 0 d.nk && allB (fun j => cls512 (kidP pd d j)) 0 d.nk) := by
  unfold standR; simp only [h.h512]; exact allB_and _ _ _ _
end Go.Proofs.Ytnokgdgikdgaeaa

namespace Go.Proofs.Ytnokgdgikdgaeaa
open Go.RowKit

theorem exprs1 (pd : Nat → PD) (d : PD) : exprsP pd d 0 1 = exprP (kidP pd d 0) := by simp [exprsP, allB]
theorem exprs2 (pd : Nat → PD) (d : PD) : exprsP pd d 0 2 = (exprP (kidP pd d 0) && exprP (kidP pd d 1)) := by simp [exprsP, allB]
theorem exprs3 (pd : Nat → PD) (d : PD) : exprsP pd d 0 3 = (exprP (kidP pd d 0) && (exprP (kidP pd d 1) && exprP (kidP pd d 2))) := by simp [exprsP, allB]
theorem exprsN (pd : Nat → PD) (d : PD) : exprsP pd d 0 d.nk = allB (fun j => exprP (kidP pd d j)) 0 d.nk := rfl
theorem row_1 {pd : Nat → PD} {d : PD} {i : Nat} {q : Nat → Option PX} (h : Kin pd d i q) (hs : slimP d) : (usesP d false false false false false && (standR 1 d.nk q)) = (kidsIn d i && stmt1 pd d) := by
  have h1 := hs.1
  have h2 := hs.2
  rw [uses_bare, stand_eq1 h, kidsIn_eq]
  unfold stmt1
  grind [exprs1, exprs2, exprs3, exprsN, cls1, cls2, cls4, cls8, cls16, cls32, cls64, cls128, cls256, cls512, allB, namedP]
theorem row_2 {pd : Nat → PD} {d : PD} {i : Nat} {q : Nat → Option PX} (h : Kin pd d i q) (hs : slimP d) : (declP d 1 200 && (standR 8 d.nk q)) = (kidsIn d i && stmt2 pd d) := by
  have h1 := hs.1
  have h2 := hs.2
  rw [decl_eq, stand_eq8 h, kidsIn_eq]
  unfold stmt2
  grind [exprs1, exprs2, exprs3, exprsN, cls1, cls2, cls4, cls8, cls16, cls32, cls64, cls128, cls256, cls512, allB, namedP]
theorem row_3 {pd : Nat → PD} {d : PD} {i : Nat} {q : Nat → Option PX} (h : Kin pd d i q) (hs : slimP d) : (declP d 1 1 && (kidsR [8] d.nk q)) = (kidsIn d i && stmt3 pd d) := by
  have h1 := hs.1
  have h2 := hs.2
  rw [decl_eq, kids_8 h, kidsIn_eq]
  unfold stmt3
  grind [exprs1, exprs2, exprs3, exprsN, cls1, cls2, cls4, cls8, cls16, cls32, cls64, cls128, cls256, cls512, allB, namedP]
theorem row_4 {pd : Nat → PD} {d : PD} {i : Nat} {q : Nat → Option PX} (h : Kin pd d i q) (hs : slimP d) : (declP d 1 1 && (kidsR [256] d.nk q)) = (kidsIn d i && stmt4 pd d) := by
  have h1 := hs.1
  have h2 := hs.2
  rw [decl_eq, kids_256 h, kidsIn_eq]
  unfold stmt4
  grind [exprs1, exprs2, exprs3, exprsN, cls1, cls2, cls4, cls8, cls16, cls32, cls64, cls128, cls256, cls512, allB, namedP]
theorem row_6 {pd : Nat → PD} {d : PD} {i : Nat} {q : Nat → Option PX} (h : Kin pd d i q) (hs : slimP d) : (usesP d false false false false false && (kidsR [32] d.nk q)) = (kidsIn d i && stmt6 pd d) := by
  have h1 := hs.1
  have h2 := hs.2
  rw [uses_bare, kids_32 h, kidsIn_eq]
  unfold stmt6
  grind [exprs1, exprs2, exprs3, exprsN, cls1, cls2, cls4, cls8, cls16, cls32, cls64, cls128, cls256, cls512, allB, namedP]
theorem row_16 {pd : Nat → PD} {d : PD} {i : Nat} {q : Nat → Option PX} (h : Kin pd d i q) (hs : slimP d) : (usesP d false false false false false && (kidsR [32] d.nk q)) = (kidsIn d i && stmt16 pd d) := by
  have h1 := hs.1
  have h2 := hs.2
  rw [uses_bare, kids_32 h, kidsIn_eq]
  unfold stmt16
  grind [exprs1, exprs2, exprs3, exprsN, cls1, cls2, cls4, cls8, cls16, cls32, cls64, cls128, cls256, cls512, allB, namedP]
theorem row_7 {pd : Nat → PD} {d : PD} {i : Nat} {q : Nat → Option PX} (h : Kin pd d i q) (hs : slimP d) : (usesP d false false false false false && ((kidsR [8, 2] d.nk q || kidsR [8, 2, 4] d.nk q))) = (kidsIn d i && stmt7 pd d) := by
  have h1 := hs.1
  have h2 := hs.2
  rw [uses_bare, kids_8_2 h, kids_8_2_4 h, kidsIn_eq]
  unfold stmt7
  grind [exprs1, exprs2, exprs3, exprsN, cls1, cls2, cls4, cls8, cls16, cls32, cls64, cls128, cls256, cls512, allB, namedP]
theorem row_8 {pd : Nat → PD} {d : PD} {i : Nat} {q : Nat → Option PX} (h : Kin pd d i q) (hs : slimP d) : (usesP d false false false false false && (kidsR [8, 2] d.nk q)) = (kidsIn d i && stmt8 pd d) := by
  have h1 := hs.1
  have h2 := hs.2
  rw [uses_bare, kids_8_2 h, kidsIn_eq]
  unfold stmt8
  grind [exprs1, exprs2, exprs3, exprsN, cls1, cls2, cls4, cls8, cls16, cls32, cls64, cls128, cls256, cls512, allB, namedP]
theorem row_9 {pd : Nat → PD} {d : PD} {i : Nat} {q : Nat → Option PX} (h : Kin pd d i q) (hs : slimP d) : (declP d 1 1 && ((kidsR [8, 8, 2] d.nk q || kidsR [8, 8, 8, 2] d.nk q))) = (kidsIn d i && stmt9 pd d) := by
  have h1 := hs.1
  have h2 := hs.2
  rw [decl_eq, kids_8_8_2 h, kids_8_8_8_2 h, kidsIn_eq]
  unfold stmt9
  grind [exprs1, exprs2, exprs3, exprsN, cls1, cls2, cls4, cls8, cls16, cls32, cls64, cls128, cls256, cls512, allB, namedP]
theorem row_10 {pd : Nat → PD} {d : PD} {i : Nat} {q : Nat → Option PX} (h : Kin pd d i q) (hs : slimP d) : (declP d 1 200 && (kidsR [8, 2] d.nk q)) = (kidsIn d i && stmt10 pd d) := by
  have h1 := hs.1
  have h2 := hs.2
  rw [decl_eq, kids_8_2 h, kidsIn_eq]
  unfold stmt10
  grind [exprs1, exprs2, exprs3, exprsN, cls1, cls2, cls4, cls8, cls16, cls32, cls64, cls128, cls256, cls512, allB, namedP]
theorem row_11 {pd : Nat → PD} {d : PD} {i : Nat} {q : Nat → Option PX} (h : Kin pd d i q) (hs : slimP d) : (usesP d false false false false false && (kidsR [] d.nk q)) = (kidsIn d i && stmt11 pd d) := by
  have h1 := hs.1
  have h2 := hs.2
  rw [uses_bare, kids0 h, kidsIn_eq]
  unfold stmt11
  grind [exprs1, exprs2, exprs3, exprsN, cls1, cls2, cls4, cls8, cls16, cls32, cls64, cls128, cls256, cls512, allB, namedP]
theorem row_12 {pd : Nat → PD} {d : PD} {i : Nat} {q : Nat → Option PX} (h : Kin pd d i q) (hs : slimP d) : (usesP d false false false false false && (kidsR [] d.nk q)) = (kidsIn d i && stmt12 pd d) := by
  have h1 := hs.1
  have h2 := hs.2
  rw [uses_bare, kids0 h, kidsIn_eq]
  unfold stmt12
  grind [exprs1, exprs2, exprs3, exprsN, cls1, cls2, cls4, cls8, cls16, cls32, cls64, cls128, cls256, cls512, allB, namedP]
theorem row_13 {pd : Nat → PD} {d : PD} {i : Nat} {q : Nat → Option PX} (h : Kin pd d i q) (hs : slimP d) : (usesP d false false false false false && (standR 8 d.nk q)) = (kidsIn d i && stmt13 pd d) := by
  have h1 := hs.1
  have h2 := hs.2
  rw [uses_bare, stand_eq8 h, kidsIn_eq]
  unfold stmt13
  grind [exprs1, exprs2, exprs3, exprsN, cls1, cls2, cls4, cls8, cls16, cls32, cls64, cls128, cls256, cls512, allB, namedP]
theorem row_14 {pd : Nat → PD} {d : PD} {i : Nat} {q : Nat → Option PX} (h : Kin pd d i q) (hs : slimP d) : (declP d 1 2 && (kidsR [2, 2] d.nk q)) = (kidsIn d i && stmt14 pd d) := by
  have h1 := hs.1
  have h2 := hs.2
  rw [decl_eq, kids_2_2 h, kidsIn_eq]
  unfold stmt14
  grind [exprs1, exprs2, exprs3, exprsN, cls1, cls2, cls4, cls8, cls16, cls32, cls64, cls128, cls256, cls512, allB, namedP]
theorem row_15 {pd : Nat → PD} {d : PD} {i : Nat} {q : Nat → Option PX} (h : Kin pd d i q) (hs : slimP d) : (usesP d false false false false false && (kidsR [8] d.nk q)) = (kidsIn d i && stmt15 pd d) := by
  have h1 := hs.1
  have h2 := hs.2
  rw [uses_bare, kids_8 h, kidsIn_eq]
  unfold stmt15
  grind [exprs1, exprs2, exprs3, exprsN, cls1, cls2, cls4, cls8, cls16, cls32, cls64, cls128, cls256, cls512, allB, namedP]
theorem row_20 {pd : Nat → PD} {d : PD} {i : Nat} {q : Nat → Option PX} (h : Kin pd d i q) (hs : slimP d) : (usesP d false false false false false && (kidsR [] d.nk q)) = (kidsIn d i && expn20 pd d) := by
  have h1 := hs.1
  have h2 := hs.2
  rw [uses_bare, kids0 h, kidsIn_eq]
  unfold expn20
  grind [exprs1, exprs2, exprs3, exprsN, cls1, cls2, cls4, cls8, cls16, cls32, cls64, cls128, cls256, cls512, allB, namedP]
theorem row_21 {pd : Nat → PD} {d : PD} {i : Nat} {q : Nat → Option PX} (h : Kin pd d i q) (hs : slimP d) : (usesP d false false false false false && (kidsR [] d.nk q)) = (kidsIn d i && expn21 pd d) := by
  have h1 := hs.1
  have h2 := hs.2
  rw [uses_bare, kids0 h, kidsIn_eq]
  unfold expn21
  grind [exprs1, exprs2, exprs3, exprsN, cls1, cls2, cls4, cls8, cls16, cls32, cls64, cls128, cls256, cls512, allB, namedP]
theorem row_22 {pd : Nat → PD} {d : PD} {i : Nat} {q : Nat → Option PX} (h : Kin pd d i q) (hs : slimP d) : (usesP d false false false false false && (kidsR [] d.nk q)) = (kidsIn d i && expn22 pd d) := by
  have h1 := hs.1
  have h2 := hs.2
  rw [uses_bare, kids0 h, kidsIn_eq]
  unfold expn22
  grind [exprs1, exprs2, exprs3, exprsN, cls1, cls2, cls4, cls8, cls16, cls32, cls64, cls128, cls256, cls512, allB, namedP]
theorem row_23 {pd : Nat → PD} {d : PD} {i : Nat} {q : Nat → Option PX} (h : Kin pd d i q) (hs : slimP d) : (usesP d false true false false false && (kidsR [] d.nk q)) = (kidsIn d i && expn23 pd d) := by
  have h1 := hs.1
  have h2 := hs.2
  rw [uses_bare, kids0 h, kidsIn_eq]
  unfold expn23
  grind [exprs1, exprs2, exprs3, exprsN, cls1, cls2, cls4, cls8, cls16, cls32, cls64, cls128, cls256, cls512, allB, namedP]
theorem row_24 {pd : Nat → PD} {d : PD} {i : Nat} {q : Nat → Option PX} (h : Kin pd d i q) (hs : slimP d) : (usesP d false false true false false && (fnum d.flt && (kidsR [] d.nk q))) = (kidsIn d i && expn24 pd d) := by
  have h1 := hs.1
  have h2 := hs.2
  rw [uses_flt, kids0 h, kidsIn_eq]
  unfold expn24
  grind [exprs1, exprs2, exprs3, exprsN, cls1, cls2, cls4, cls8, cls16, cls32, cls64, cls128, cls256, cls512, allB, namedP]
theorem row_25 {pd : Nat → PD} {d : PD} {i : Nat} {q : Nat → Option PX} (h : Kin pd d i q) (hs : slimP d) : (usesP d false false false true false && (decide ((d.text.size : Int) ≤ 4000) && (kidsR [] d.nk q))) = (kidsIn d i && expn25 pd d) := by
  have h1 := hs.1
  have h2 := hs.2
  rw [uses_bare, kids0 h, kidsIn_eq]
  unfold expn25
  grind [exprs1, exprs2, exprs3, exprsN, cls1, cls2, cls4, cls8, cls16, cls32, cls64, cls128, cls256, cls512, allB, namedP]
theorem row_26 {pd : Nat → PD} {d : PD} {i : Nat} {q : Nat → Option PX} (h : Kin pd d i q) (hs : slimP d) : (usesP d false false false true false && (nameB d.text && (kidsR [] d.nk q))) = (kidsIn d i && expn26 pd d) := by
  have h1 := hs.1
  have h2 := hs.2
  rw [uses_bare, kids0 h, kidsIn_eq]
  unfold expn26
  grind [exprs1, exprs2, exprs3, exprsN, cls1, cls2, cls4, cls8, cls16, cls32, cls64, cls128, cls256, cls512, allB, namedP]
theorem row_27 {pd : Nat → PD} {d : PD} {i : Nat} {q : Nat → Option PX} (h : Kin pd d i q) (hs : slimP d) : (usesP d false false false false false && (kidsR [] d.nk q)) = (kidsIn d i && expn27 pd d) := by
  have h1 := hs.1
  have h2 := hs.2
  rw [uses_bare, kids0 h, kidsIn_eq]
  unfold expn27
  grind [exprs1, exprs2, exprs3, exprsN, cls1, cls2, cls4, cls8, cls16, cls32, cls64, cls128, cls256, cls512, allB, namedP]
theorem row_28 {pd : Nat → PD} {d : PD} {i : Nat} {q : Nat → Option PX} (h : Kin pd d i q) (hs : slimP d) : (usesP d false false false false false && (kidsR [8, 8] d.nk q)) = (kidsIn d i && expn28 pd d) := by
  have h1 := hs.1
  have h2 := hs.2
  rw [uses_bare, kids_8_8 h, kidsIn_eq]
  unfold expn28
  grind [exprs1, exprs2, exprs3, exprsN, cls1, cls2, cls4, cls8, cls16, cls32, cls64, cls128, cls256, cls512, allB, namedP]
theorem row_29 {pd : Nat → PD} {d : PD} {i : Nat} {q : Nat → Option PX} (h : Kin pd d i q) (hs : slimP d) : (usesP d false false false false false && (kidsR [8, 8] d.nk q)) = (kidsIn d i && expn29 pd d) := by
  have h1 := hs.1
  have h2 := hs.2
  rw [uses_bare, kids_8_8 h, kidsIn_eq]
  unfold expn29
  grind [exprs1, exprs2, exprs3, exprsN, cls1, cls2, cls4, cls8, cls16, cls32, cls64, cls128, cls256, cls512, allB, namedP]
theorem row_30 {pd : Nat → PD} {d : PD} {i : Nat} {q : Nat → Option PX} (h : Kin pd d i q) (hs : slimP d) : (usesP d true false false false false && (decide ((19 : Int) ≤ d.op) && (decide (d.op ≤ 22) && (kidsR [8] d.nk q)))) = (kidsIn d i && expn30 pd d) := by
  have h1 := hs.1
  have h2 := hs.2
  rw [uses_bare, kids_8 h, kidsIn_eq]
  unfold expn30
  grind [exprs1, exprs2, exprs3, exprsN, cls1, cls2, cls4, cls8, cls16, cls32, cls64, cls128, cls256, cls512, allB, namedP]
theorem row_31 {pd : Nat → PD} {d : PD} {i : Nat} {q : Nat → Option PX} (h : Kin pd d i q) (hs : slimP d) : (usesP d true false false false false && (decide ((1 : Int) ≤ d.op) && (decide (d.op ≤ 18) && (kidsR [8, 8] d.nk q)))) = (kidsIn d i && expn31 pd d) := by
  have h1 := hs.1
  have h2 := hs.2
  rw [uses_bare, kids_8_8 h, kidsIn_eq]
  unfold expn31
  grind [exprs1, exprs2, exprs3, exprsN, cls1, cls2, cls4, cls8, cls16, cls32, cls64, cls128, cls256, cls512, allB, namedP]
theorem row_32 {pd : Nat → PD} {d : PD} {i : Nat} {q : Nat → Option PX} (h : Kin pd d i q) (hs : slimP d) : (usesP d false false false false false && (kidsR [16, 8] d.nk q)) = (kidsIn d i && expn32 pd d) := by
  have h1 := hs.1
  have h2 := hs.2
  rw [uses_bare, kids_16_8 h, kidsIn_eq]
  unfold expn32
  grind [exprs1, exprs2, exprs3, exprsN, cls1, cls2, cls4, cls8, cls16, cls32, cls64, cls128, cls256, cls512, allB, namedP]
theorem row_33 {pd : Nat → PD} {d : PD} {i : Nat} {q : Nat → Option PX} (h : Kin pd d i q) (hs : slimP d) : (usesP d false false false true false && (nameB d.text && (kidsR [16] d.nk q))) = (kidsIn d i && expn33 pd d) := by
  have h1 := hs.1
  have h2 := hs.2
  rw [uses_bare, kids_16 h, kidsIn_eq]
  unfold expn33
  grind [exprs1, exprs2, exprs3, exprsN, cls1, cls2, cls4, cls8, cls16, cls32, cls64, cls128, cls256, cls512, allB, namedP]
theorem row_35 {pd : Nat → PD} {d : PD} {i : Nat} {q : Nat → Option PX} (h : Kin pd d i q) (hs : slimP d) : (usesP d false false false false false && (standR 512 d.nk q)) = (kidsIn d i && expn35 pd d) := by
  have h1 := hs.1
  have h2 := hs.2
  rw [uses_bare, stand_eq512 h, kidsIn_eq]
  unfold expn35
  grind [exprs1, exprs2, exprs3, exprsN, cls1, cls2, cls4, cls8, cls16, cls32, cls64, cls128, cls256, cls512, allB, namedP]
theorem row_36 {pd : Nat → PD} {d : PD} {i : Nat} {q : Nat → Option PX} (h : Kin pd d i q) (hs : slimP d) : (usesP d true false false false true && ((d.op == 0 || d.op == 1) && (allB (fun i => nameB (d.nm i)) 0 d.nn && (kidsR [2] d.nk q)))) = (kidsIn d i && expn36 pd d) := by
  have h1 := hs.1
  have h2 := hs.2
  rw [uses_bare, kids_2 h, kidsIn_eq]
  unfold expn36
  grind [exprs1, exprs2, exprs3, exprsN, cls1, cls2, cls4, cls8, cls16, cls32, cls64, cls128, cls256, cls512, allB, namedP]
theorem row_37 {pd : Nat → PD} {d : PD} {i : Nat} {q : Nat → Option PX} (h : Kin pd d i q) (hs : slimP d) : (usesP d false false false false false && (kidsR [64] d.nk q)) = (kidsIn d i && expn37 pd d) := by
  have h1 := hs.1
  have h2 := hs.2
  rw [uses_bare, kids_64 h, kidsIn_eq]
  unfold expn37
  grind [exprs1, exprs2, exprs3, exprsN, cls1, cls2, cls4, cls8, cls16, cls32, cls64, cls128, cls256, cls512, allB, namedP]
theorem row_40 {pd : Nat → PD} {d : PD} {i : Nat} {q : Nat → Option PX} (h : Kin pd d i q) (hs : slimP d) : (usesP d false false false false false && (kidsR [8] d.nk q)) = (kidsIn d i && expn40 pd d) := by
  have h1 := hs.1
  have h2 := hs.2
  rw [uses_bare, kids_8 h, kidsIn_eq]
  unfold expn40
  grind [exprs1, exprs2, exprs3, exprsN, cls1, cls2, cls4, cls8, cls16, cls32, cls64, cls128, cls256, cls512, allB, namedP]
theorem row_41 {pd : Nat → PD} {d : PD} {i : Nat} {q : Nat → Option PX} (h : Kin pd d i q) (hs : slimP d) : (usesP d false false false false false && (kidsR [8, 8] d.nk q)) = (kidsIn d i && expn41 pd d) := by
  have h1 := hs.1
  have h2 := hs.2
  rw [uses_bare, kids_8_8 h, kidsIn_eq]
  unfold expn41
  grind [exprs1, exprs2, exprs3, exprsN, cls1, cls2, cls4, cls8, cls16, cls32, cls64, cls128, cls256, cls512, allB, namedP]
theorem row_42 {pd : Nat → PD} {d : PD} {i : Nat} {q : Nat → Option PX} (h : Kin pd d i q) (hs : slimP d) : (usesP d false false false true false && (nameB d.text && (kidsR [8] d.nk q))) = (kidsIn d i && expn42 pd d) := by
  have h1 := hs.1
  have h2 := hs.2
  rw [uses_bare, kids_8 h, kidsIn_eq]
  unfold expn42
  grind [exprs1, exprs2, exprs3, exprsN, cls1, cls2, cls4, cls8, cls16, cls32, cls64, cls128, cls256, cls512, allB, namedP]
end Go.Proofs.Ytnokgdgikdgaeaa
