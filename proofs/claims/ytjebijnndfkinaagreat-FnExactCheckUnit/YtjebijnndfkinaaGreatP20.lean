import Derived.Test.YtjebijnndfkinaaGreatP19
namespace Go.Proofs.YtjebijnndfkinaaGreat
open Go.RowKit

theorem in0 {nd : Nat → ND} {n : Nat} (h : (nd n).nk = 0) : inB nd n = true := by simp [inB, h, allB]

theorem fit_9 {nd : Nat → ND} {n : Nat} (h : (nd n).kind = 9) : fitK (nd n) (kfN nd n) = (inB nd n && stmtB nd n) := by
  by_cases hz : (nd n).nk = 0
  · rw [in0 hz]
    simp [fitK, stmtB, h, usesB, bareB, hz]
  · have hz' : (((nd n).nk : Int) == 0) = false := by simp; omega
    simp [fitK, stmtB, h, usesB, hz']

theorem fit_10 {nd : Nat → ND} {n : Nat} (h : (nd n).kind = 10) : fitK (nd n) (kfN nd n) = (inB nd n && stmtB nd n) := by
  by_cases hz : (nd n).nk = 0
  · rw [in0 hz]
    simp [fitK, stmtB, h, usesB, bareB, hz]
  · have hz' : (((nd n).nk : Int) == 0) = false := by simp; omega
    simp [fitK, stmtB, h, usesB, hz']

theorem fit_20 {nd : Nat → ND} {n : Nat} (h : (nd n).kind = 20) : fitK (nd n) (kfN nd n) = (inB nd n && exprnB nd n) := by
  by_cases hz : (nd n).nk = 0
  · rw [in0 hz]
    simp [fitK, exprnB, h, usesB, bareB, hz]
  · have hz' : (((nd n).nk : Int) == 0) = false := by simp; omega
    simp [fitK, exprnB, h, usesB, hz']

theorem fit_21 {nd : Nat → ND} {n : Nat} (h : (nd n).kind = 21) : fitK (nd n) (kfN nd n) = (inB nd n && exprnB nd n) := by
  by_cases hz : (nd n).nk = 0
  · rw [in0 hz]
    simp [fitK, exprnB, h, usesB, bareB, hz]
  · have hz' : (((nd n).nk : Int) == 0) = false := by simp; omega
    simp [fitK, exprnB, h, usesB, hz']

theorem fit_22 {nd : Nat → ND} {n : Nat} (h : (nd n).kind = 22) : fitK (nd n) (kfN nd n) = (inB nd n && exprnB nd n) := by
  by_cases hz : (nd n).nk = 0
  · rw [in0 hz]
    simp [fitK, exprnB, h, usesB, bareB, hz]
  · have hz' : (((nd n).nk : Int) == 0) = false := by simp; omega
    simp [fitK, exprnB, h, usesB, hz']

theorem fit_37 {nd : Nat → ND} {n : Nat} (h : (nd n).kind = 37) : fitK (nd n) (kfN nd n) = (inB nd n && exprnB nd n) := by
  by_cases hz : (nd n).nk = 0
  · rw [in0 hz]
    simp [fitK, exprnB, h, usesB, bareB, hz]
  · have hz' : (((nd n).nk : Int) == 0) = false := by simp; omega
    simp [fitK, exprnB, h, usesB, hz']

theorem fit_23 {nd : Nat → ND} {n : Nat} (h : (nd n).kind = 23) : fitK (nd n) (kfN nd n) = (inB nd n && exprnB nd n) := by
  by_cases hz : (nd n).nk = 0
  · rw [in0 hz]
    simp [fitK, exprnB, h, usesB, bareB, hz]
  · have hz' : (((nd n).nk : Int) == 0) = false := by simp; omega
    simp [fitK, exprnB, h, usesB, hz']

theorem fit_24 {nd : Nat → ND} {n : Nat} (h : (nd n).kind = 24) : fitK (nd n) (kfN nd n) = (inB nd n && exprnB nd n) := by
  by_cases hz : (nd n).nk = 0
  · rw [in0 hz]
    simp [fitK, exprnB, h, usesB, bareB, hz]
    grind
  · have hz' : (((nd n).nk : Int) == 0) = false := by simp; omega
    simp [fitK, exprnB, h, usesB, hz']

theorem fit_25 {nd : Nat → ND} {n : Nat} (h : (nd n).kind = 25) : fitK (nd n) (kfN nd n) = (inB nd n && exprnB nd n) := by
  by_cases hz : (nd n).nk = 0
  · rw [in0 hz]
    simp [fitK, exprnB, h, usesB, bareB, hz]
    grind
  · have hz' : (((nd n).nk : Int) == 0) = false := by simp; omega
    simp [fitK, exprnB, h, usesB, hz']

theorem fit_26 {nd : Nat → ND} {n : Nat} (h : (nd n).kind = 26) : fitK (nd n) (kfN nd n) = (inB nd n && exprnB nd n) := by
  by_cases hz : (nd n).nk = 0
  · rw [in0 hz]
    simp [fitK, exprnB, h, usesB, bareB, hz]
  · have hz' : (((nd n).nk : Int) == 0) = false := by simp; omega
    simp [fitK, exprnB, h, usesB, hz']

theorem fit_27 {nd : Nat → ND} {n : Nat} (h : (nd n).kind = 27) : fitK (nd n) (kfN nd n) = (inB nd n && exprnB nd n) := by
  by_cases hz : (nd n).nk = 0
  · rw [in0 hz]
    simp [fitK, exprnB, h, usesB, bareB, hz]
  · have hz' : (((nd n).nk : Int) == 0) = false := by simp; omega
    simp [fitK, exprnB, h, usesB, hz']

theorem fit_36 {nd : Nat → ND} {n : Nat} (h : (nd n).kind = 36) : fitK (nd n) (kfN nd n) = (inB nd n && exprnB nd n) := by
  by_cases hz : (nd n).nk = 0
  · rw [in0 hz]
    simp [fitK, exprnB, h, usesB, bareB, hz]
  · have hz' : (((nd n).nk : Int) == 0) = false := by simp; omega
    simp [fitK, exprnB, h, usesB, hz']

theorem fit_28 {nd : Nat → ND} {n : Nat} (h : (nd n).kind = 28) : fitK (nd n) (kfN nd n) = (inB nd n && exprnB nd n) := by
  by_cases hz : (nd n).nk = 0
  · rw [in0 hz]
    simp [fitK, exprnB, h, usesB, bareB, hz]
    grind
  · have hz' : (((nd n).nk : Int) == 0) = false := by simp; omega
    simp [fitK, exprnB, h, usesB, hz']

theorem fit_4 {nd : Nat → ND} {n : Nat} (h : (nd n).kind = 4) : fitK (nd n) (kfN nd n) = (inB nd n && stmtB nd n) := by
  have e1 : fitK (nd n) (kfN nd n) = ((usesB (nd n) false false false false false true) && kidsC [4] (nd n).nk (kfN nd n)) := by simp [fitK, h]
  have e2 : stmtB nd n = ((((nd n).nk : Int) == 1) && kidK nd n 0 == 34 && (bareB (nd n) false false false false 0)) := by simp [stmtB, h]
  rw [e1, e2]
  by_cases hz : (nd n).nk = 1
  · have k0 := kid_kf nd n (i := 0) (by omega)
    cases hx : kidsC [4] (nd n).nk (kfN nd n)
    · simp only [kidsC_one, c4] at hx
      have hx2 : (((kfN nd n 0) == 34)) = false := by simpa [hz] using hx
      grind
    · rw [kidsC_in hx]
      simp only [kidsC_one, c4] at hx
      have hx2 : (((kfN nd n 0) == 34)) = true := by simpa [hz] using hx
      grind [usesB, bareB]
  · have hz' : (((nd n).nk : Int) == 1) = false := by simp; omega
    rw [kidsC_one, hz']; simp

theorem fit_14 {nd : Nat → ND} {n : Nat} (h : (nd n).kind = 14) : fitK (nd n) (kfN nd n) = (inB nd n && stmtB nd n) := by
  have e1 : fitK (nd n) (kfN nd n) = ((usesB (nd n) false false false false false true) && kidsC [4] (nd n).nk (kfN nd n)) := by simp [fitK, h]
  have e2 : stmtB nd n = ((((nd n).nk : Int) == 1) && kidK nd n 0 == 34 && (bareB (nd n) false false false false 0)) := by simp [stmtB, h]
  rw [e1, e2]
  by_cases hz : (nd n).nk = 1
  · have k0 := kid_kf nd n (i := 0) (by omega)
    cases hx : kidsC [4] (nd n).nk (kfN nd n)
    · simp only [kidsC_one, c4] at hx
      have hx2 : (((kfN nd n 0) == 34)) = false := by simpa [hz] using hx
      grind
    · rw [kidsC_in hx]
      simp only [kidsC_one, c4] at hx
      have hx2 : (((kfN nd n 0) == 34)) = true := by simpa [hz] using hx
      grind [usesB, bareB]
  · have hz' : (((nd n).nk : Int) == 1) = false := by simp; omega
    rw [kidsC_one, hz']; simp

theorem fit_6 {nd : Nat → ND} {n : Nat} (h : (nd n).kind = 6) : fitK (nd n) (kfN nd n) = (inB nd n && stmtB nd n) := by
  have e1 : fitK (nd n) (kfN nd n) = ((usesB (nd n) false false false false false true) && kidsC [1, 2] (nd n).nk (kfN nd n)) := by simp [fitK, h]
  have e2 : stmtB nd n = ((((nd n).nk : Int) == 2) && exprsB nd n 0 1 && blockB nd n && (bareB (nd n) false false false false 0)) := by simp [stmtB, h]
  rw [e1, e2]
  by_cases hz : (nd n).nk = 2
  · have k0 := kid_kf nd n (i := 0) (by omega)
    have k1 := kid_kf nd n (i := 1) (by omega)
    cases hx : kidsC [1, 2] (nd n).nk (kfN nd n)
    · simp only [kidsC_two, c1, c2] at hx
      have hx2 : (exprB (kfN nd n 0) && (((kfN nd n 1) == 1))) = false := by simpa [hz] using hx
      grind [exprsB, allB, blockB]
    · rw [kidsC_in hx]
      simp only [kidsC_two, c1, c2] at hx
      have hx2 : (exprB (kfN nd n 0) && (((kfN nd n 1) == 1))) = true := by simpa [hz] using hx
      grind [exprsB, allB, blockB, usesB, bareB]
  · have hz' : (((nd n).nk : Int) == 2) = false := by simp; omega
    rw [kidsC_two, hz']; simp

theorem fit_7 {nd : Nat → ND} {n : Nat} (h : (nd n).kind = 7) : fitK (nd n) (kfN nd n) = (inB nd n && stmtB nd n) := by
  have e1 : fitK (nd n) (kfN nd n) = ((usesB (nd n) false false false false true true) && (((nd n).nr : Int) == 1) && kidsC [1, 1, 1, 2] (nd n).nk (kfN nd n)) := by simp [fitK, h]
  have e2 : stmtB nd n = ((((nd n).nk : Int) == 4) && exprsB nd n 0 3 && blockB nd n && (bareB (nd n) false false false false 1)) := by simp [stmtB, h]
  rw [e1, e2]
  by_cases hz : (nd n).nk = 4
  · have k0 := kid_kf nd n (i := 0) (by omega)
    have k1 := kid_kf nd n (i := 1) (by omega)
    have k2 := kid_kf nd n (i := 2) (by omega)
    have k3 := kid_kf nd n (i := 3) (by omega)
    cases hx : kidsC [1, 1, 1, 2] (nd n).nk (kfN nd n)
    · simp only [kidsC_four, c1, c2] at hx
      have hx2 : (exprB (kfN nd n 0) && (exprB (kfN nd n 1) && (exprB (kfN nd n 2) && (((kfN nd n 3) == 1))))) = false := by simpa [hz] using hx
      grind [exprsB, allB, blockB]
    · rw [kidsC_in hx]
      simp only [kidsC_four, c1, c2] at hx
      have hx2 : (exprB (kfN nd n 0) && (exprB (kfN nd n 1) && (exprB (kfN nd n 2) && (((kfN nd n 3) == 1))))) = true := by simpa [hz] using hx
      grind [exprsB, allB, blockB, usesB, bareB]
  · have hz' : (((nd n).nk : Int) == 4) = false := by simp; omega
    rw [kidsC_four, hz']; simp

theorem fit_8 {nd : Nat → ND} {n : Nat} (h : (nd n).kind = 8) : fitK (nd n) (kfN nd n) = (inB nd n && stmtB nd n) := by
  have e1 : fitK (nd n) (kfN nd n) = ((usesB (nd n) false false false false true true) && (decide (1 ≤ ((nd n).nr : Int)) && decide (((nd n).nr : Int) ≤ 4)) && kidsC [1, 2] (nd n).nk (kfN nd n)) := by simp [fitK, h]
  have e2 : stmtB nd n = ((((nd n).nk : Int) == 2) && decide (1 ≤ (nd n).nr) && decide ((nd n).nr ≤ 4) && exprsB nd n 0 1 && blockB nd n && (bareB (nd n) false false false false (nd n).nr)) := by simp [stmtB, h]
  rw [e1, e2]
  by_cases hz : (nd n).nk = 2
  · have k0 := kid_kf nd n (i := 0) (by omega)
    have k1 := kid_kf nd n (i := 1) (by omega)
    cases hx : kidsC [1, 2] (nd n).nk (kfN nd n)
    · simp only [kidsC_two, c1, c2] at hx
      have hx2 : (exprB (kfN nd n 0) && (((kfN nd n 1) == 1))) = false := by simpa [hz] using hx
      grind [exprsB, allB, blockB]
    · rw [kidsC_in hx]
      simp only [kidsC_two, c1, c2] at hx
      have hx2 : (exprB (kfN nd n 0) && (((kfN nd n 1) == 1))) = true := by simpa [hz] using hx
      grind [exprsB, allB, blockB, usesB, bareB]
  · have hz' : (((nd n).nk : Int) == 2) = false := by simp; omega
    rw [kidsC_two, hz']; simp

theorem fit_12 {nd : Nat → ND} {n : Nat} (h : (nd n).kind = 12) : fitK (nd n) (kfN nd n) = (inB nd n && stmtB nd n) := by
  have e1 : fitK (nd n) (kfN nd n) = ((usesB (nd n) false false false false true true) && (((nd n).nr : Int) == 2) && kidsC [2, 2] (nd n).nk (kfN nd n)) := by simp [fitK, h]
  have e2 : stmtB nd n = ((((nd n).nk : Int) == 2) && kidK nd n 0 == 1 && blockB nd n && (bareB (nd n) false false false false 2)) := by simp [stmtB, h]
  rw [e1, e2]
  by_cases hz : (nd n).nk = 2
  · have k0 := kid_kf nd n (i := 0) (by omega)
    have k1 := kid_kf nd n (i := 1) (by omega)
    cases hx : kidsC [2, 2] (nd n).nk (kfN nd n)
    · simp only [kidsC_two, c2] at hx
      have hx2 : (((kfN nd n 0) == 1) && (((kfN nd n 1) == 1))) = false := by simpa [hz] using hx
      grind [blockB]
    · rw [kidsC_in hx]
      simp only [kidsC_two, c2] at hx
      have hx2 : (((kfN nd n 0) == 1) && (((kfN nd n 1) == 1))) = true := by simpa [hz] using hx
      grind [blockB, usesB, bareB]
  · have hz' : (((nd n).nk : Int) == 2) = false := by simp; omega
    rw [kidsC_two, hz']; simp

theorem fit_13 {nd : Nat → ND} {n : Nat} (h : (nd n).kind = 13) : fitK (nd n) (kfN nd n) = (inB nd n && stmtB nd n) := by
  have e1 : fitK (nd n) (kfN nd n) = ((usesB (nd n) false false false false false true) && kidsC [1] (nd n).nk (kfN nd n)) := by simp [fitK, h]
  have e2 : stmtB nd n = ((((nd n).nk : Int) == 1) && exprsB nd n 0 1 && (bareB (nd n) false false false false 0)) := by simp [stmtB, h]
  rw [e1, e2]
  by_cases hz : (nd n).nk = 1
  · have k0 := kid_kf nd n (i := 0) (by omega)
    cases hx : kidsC [1] (nd n).nk (kfN nd n)
    · simp only [kidsC_one, c1] at hx
      have hx2 : (exprB (kfN nd n 0)) = false := by simpa [hz] using hx
      grind [exprsB, allB]
    · rw [kidsC_in hx]
      simp only [kidsC_one, c1] at hx
      have hx2 : (exprB (kfN nd n 0)) = true := by simpa [hz] using hx
      grind [exprsB, allB, usesB, bareB]
  · have hz' : (((nd n).nk : Int) == 1) = false := by simp; omega
    rw [kidsC_one, hz']; simp

theorem fit_29 {nd : Nat → ND} {n : Nat} (h : (nd n).kind = 29) : fitK (nd n) (kfN nd n) = (inB nd n && exprnB nd n) := by
  have e1 : fitK (nd n) (kfN nd n) = ((usesB (nd n) false false false false false true) && kidsC [1, 1] (nd n).nk (kfN nd n)) := by simp [fitK, h]
  have e2 : exprnB nd n = ((((nd n).nk : Int) == 2) && exprsB nd n 0 (nd n).nk && (bareB (nd n) false false false false 0)) := by simp [exprnB, h]
  rw [e1, e2]
  by_cases hz : (nd n).nk = 2
  · have k0 := kid_kf nd n (i := 0) (by omega)
    have k1 := kid_kf nd n (i := 1) (by omega)
    cases hx : kidsC [1, 1] (nd n).nk (kfN nd n)
    · simp only [kidsC_two, c1] at hx
      have hx2 : (exprB (kfN nd n 0) && (exprB (kfN nd n 1))) = false := by simpa [hz] using hx
      grind [exprsB, allB]
    · rw [kidsC_in hx]
      simp only [kidsC_two, c1] at hx
      have hx2 : (exprB (kfN nd n 0) && (exprB (kfN nd n 1))) = true := by simpa [hz] using hx
      grind [exprsB, allB, usesB, bareB]
  · have hz' : (((nd n).nk : Int) == 2) = false := by simp; omega
    rw [kidsC_two, hz']; simp

theorem fit_30 {nd : Nat → ND} {n : Nat} (h : (nd n).kind = 30) : fitK (nd n) (kfN nd n) = (inB nd n && exprnB nd n) := by
  have e1 : fitK (nd n) (kfN nd n) = ((usesB (nd n) false false false false false true) && kidsC [1, 1] (nd n).nk (kfN nd n)) := by simp [fitK, h]
  have e2 : exprnB nd n = ((((nd n).nk : Int) == 2) && exprsB nd n 0 (nd n).nk && (bareB (nd n) false false false false 0)) := by simp [exprnB, h]
  rw [e1, e2]
  by_cases hz : (nd n).nk = 2
  · have k0 := kid_kf nd n (i := 0) (by omega)
    have k1 := kid_kf nd n (i := 1) (by omega)
    cases hx : kidsC [1, 1] (nd n).nk (kfN nd n)
    · simp only [kidsC_two, c1] at hx
      have hx2 : (exprB (kfN nd n 0) && (exprB (kfN nd n 1))) = false := by simpa [hz] using hx
      grind [exprsB, allB]
    · rw [kidsC_in hx]
      simp only [kidsC_two, c1] at hx
      have hx2 : (exprB (kfN nd n 0) && (exprB (kfN nd n 1))) = true := by simpa [hz] using hx
      grind [exprsB, allB, usesB, bareB]
  · have hz' : (((nd n).nk : Int) == 2) = false := by simp; omega
    rw [kidsC_two, hz']; simp

theorem fit_33 {nd : Nat → ND} {n : Nat} (h : (nd n).kind = 33) : fitK (nd n) (kfN nd n) = (inB nd n && exprnB nd n) := by
  have e1 : fitK (nd n) (kfN nd n) = ((usesB (nd n) false false false false false true) && kidsC [1, 1] (nd n).nk (kfN nd n)) := by simp [fitK, h]
  have e2 : exprnB nd n = ((((nd n).nk : Int) == 2) && exprsB nd n 0 (nd n).nk && (bareB (nd n) false false false false 0)) := by simp [exprnB, h]
  rw [e1, e2]
  by_cases hz : (nd n).nk = 2
  · have k0 := kid_kf nd n (i := 0) (by omega)
    have k1 := kid_kf nd n (i := 1) (by omega)
    cases hx : kidsC [1, 1] (nd n).nk (kfN nd n)
    · simp only [kidsC_two, c1] at hx
      have hx2 : (exprB (kfN nd n 0) && (exprB (kfN nd n 1))) = false := by simpa [hz] using hx
      grind [exprsB, allB]
    · rw [kidsC_in hx]
      simp only [kidsC_two, c1] at hx
      have hx2 : (exprB (kfN nd n 0) && (exprB (kfN nd n 1))) = true := by simpa [hz] using hx
      grind [exprsB, allB, usesB, bareB]
  · have hz' : (((nd n).nk : Int) == 2) = false := by simp; omega
    rw [kidsC_two, hz']; simp

theorem fit_31 {nd : Nat → ND} {n : Nat} (h : (nd n).kind = 31) : fitK (nd n) (kfN nd n) = (inB nd n && exprnB nd n) := by
  have e1 : fitK (nd n) (kfN nd n) = ((usesB (nd n) true false false false false true) && (decide (19 ≤ (nd n).op) && decide ((nd n).op ≤ 22)) && kidsC [1] (nd n).nk (kfN nd n)) := by simp [fitK, h]
  have e2 : exprnB nd n = ((((nd n).nk : Int) == 1) && exprsB nd n 0 (nd n).nk && decide (19 ≤ (nd n).op) && decide ((nd n).op ≤ 22) && (bareB (nd n) true false false false 0)) := by simp [exprnB, h]
  rw [e1, e2]
  by_cases hz : (nd n).nk = 1
  · have k0 := kid_kf nd n (i := 0) (by omega)
    cases hx : kidsC [1] (nd n).nk (kfN nd n)
    · simp only [kidsC_one, c1] at hx
      have hx2 : (exprB (kfN nd n 0)) = false := by simpa [hz] using hx
      grind [exprsB, allB]
    · rw [kidsC_in hx]
      simp only [kidsC_one, c1] at hx
      have hx2 : (exprB (kfN nd n 0)) = true := by simpa [hz] using hx
      grind [exprsB, allB, usesB, bareB]
  · have hz' : (((nd n).nk : Int) == 1) = false := by simp; omega
    rw [kidsC_one, hz']; simp

theorem fit_32 {nd : Nat → ND} {n : Nat} (h : (nd n).kind = 32) : fitK (nd n) (kfN nd n) = (inB nd n && exprnB nd n) := by
  have e1 : fitK (nd n) (kfN nd n) = ((usesB (nd n) true false false false false true) && (decide (1 ≤ (nd n).op) && decide ((nd n).op ≤ 18)) && kidsC [1, 1] (nd n).nk (kfN nd n)) := by simp [fitK, h]
  have e2 : exprnB nd n = ((((nd n).nk : Int) == 2) && exprsB nd n 0 (nd n).nk && decide (1 ≤ (nd n).op) && decide ((nd n).op ≤ 18) && (bareB (nd n) true false false false 0)) := by simp [exprnB, h]
  rw [e1, e2]
  by_cases hz : (nd n).nk = 2
  · have k0 := kid_kf nd n (i := 0) (by omega)
    have k1 := kid_kf nd n (i := 1) (by omega)
    cases hx : kidsC [1, 1] (nd n).nk (kfN nd n)
    · simp only [kidsC_two, c1] at hx
      have hx2 : (exprB (kfN nd n 0) && (exprB (kfN nd n 1))) = false := by simpa [hz] using hx
      grind [exprsB, allB]
    · rw [kidsC_in hx]
      simp only [kidsC_two, c1] at hx
      have hx2 : (exprB (kfN nd n 0) && (exprB (kfN nd n 1))) = true := by simpa [hz] using hx
      grind [exprsB, allB, usesB, bareB]
  · have hz' : (((nd n).nk : Int) == 2) = false := by simp; omega
    rw [kidsC_two, hz']; simp

theorem fit_38 {nd : Nat → ND} {n : Nat} (h : (nd n).kind = 38) : fitK (nd n) (kfN nd n) = (inB nd n && exprnB nd n) := by
  have e1 : fitK (nd n) (kfN nd n) = ((usesB (nd n) false false false false false true) && kidsC [5] (nd n).nk (kfN nd n)) := by simp [fitK, h]
  have e2 : exprnB nd n = ((((nd n).nk : Int) == 1) && manyB (kidK nd n 0) && (bareB (nd n) false false false false 0)) := by simp [exprnB, h]
  rw [e1, e2]
  by_cases hz : (nd n).nk = 1
  · have k0 := kid_kf nd n (i := 0) (by omega)
    cases hx : kidsC [5] (nd n).nk (kfN nd n)
    · simp only [kidsC_one, c5] at hx
      have hx2 : (((kfN nd n 0) == 34 || (kfN nd n 0) == 37)) = false := by simpa [hz] using hx
      grind [manyB]
    · rw [kidsC_in hx]
      simp only [kidsC_one, c5] at hx
      have hx2 : (((kfN nd n 0) == 34 || (kfN nd n 0) == 37)) = true := by simpa [hz] using hx
      grind [manyB, usesB, bareB]
  · have hz' : (((nd n).nk : Int) == 1) = false := by simp; omega
    rw [kidsC_one, hz']; simp

end Go.Proofs.YtjebijnndfkinaaGreat

namespace Go.Proofs.YtjebijnndfkinaaGreat
open Go.RowKit

theorem exprs_all (nd : Nat → ND) (n : Nat) : exprsB nd n 0 (nd n).nk = allB (fun i => exprB (kidK nd n i)) 0 (nd n).nk := rfl

theorem fit_1 {nd : Nat → ND} {n : Nat} (h : (nd n).kind = 1) : fitK (nd n) (kfN nd n) = (inB nd n && stmtB nd n) := by
  have e1 : fitK (nd n) (kfN nd n) = (usesB (nd n) false false false false false true && allB (fun i => classB 0 (kfN nd n i)) 0 (nd n).nk) := by simp [fitK, h]
  have e2 : stmtB nd n = (allB (fun i => statB (kidK nd n i)) 0 (nd n).nk && bareB (nd n) false false false false 0) := by simp [stmtB, h]
  have e3 := all_in nd n (p := statB) (q := classB 0) (nd n).nk rfl (fun k hk => class_ne hk) (fun k => rfl)
  rw [e1, e2, ← e3]
  grind [usesB, bareB]
theorem fit_2 {nd : Nat → ND} {n : Nat} (h : (nd n).kind = 2) : fitK (nd n) (kfN nd n) = (inB nd n && stmtB nd n) := by
  have e1 : fitK (nd n) (kfN nd n) = (usesB (nd n) false false false false true true && decide (1 ≤ ((nd n).nr : Int)) && allB (fun i => classB 1 (kfN nd n i)) 0 (nd n).nk) := by simp [fitK, h]
  have e2 : stmtB nd n = (decide (0 < (nd n).nr) && bareB (nd n) false false false false (nd n).nr && exprsB nd n 0 (nd n).nk) := by simp [stmtB, h]
  have e3 := all_in nd n (p := exprB) (q := classB 1) (nd n).nk rfl (fun k hk => class_ne hk) (fun k => rfl)
  rw [e1, e2, ← e3, exprs_all]
  grind [usesB, bareB]
theorem fit_11 {nd : Nat → ND} {n : Nat} (h : (nd n).kind = 11) : fitK (nd n) (kfN nd n) = (inB nd n && stmtB nd n) := by
  have e1 : fitK (nd n) (kfN nd n) = (usesB (nd n) false false false false false true && allB (fun i => classB 1 (kfN nd n i)) 0 (nd n).nk) := by simp [fitK, h]
  have e2 : stmtB nd n = (exprsB nd n 0 (nd n).nk && bareB (nd n) false false false false 0) := by simp [stmtB, h]
  have e3 := all_in nd n (p := exprB) (q := classB 1) (nd n).nk rfl (fun k hk => class_ne hk) (fun k => rfl)
  rw [e1, e2, ← e3, exprs_all]
  grind [usesB, bareB]
theorem fit_34 {nd : Nat → ND} {n : Nat} (h : (nd n).kind = 34) : fitK (nd n) (kfN nd n) = (inB nd n && exprnB nd n) := by
  have e1 : fitK (nd n) (kfN nd n) = (usesB (nd n) false false false false false true && decide (1 ≤ ((nd n).nk : Int)) && allB (fun i => classB 1 (kfN nd n i)) 0 (nd n).nk) := by simp [fitK, h]
  have e2 : exprnB nd n = (decide (1 ≤ (nd n).nk) && exprsB nd n 0 (nd n).nk && bareB (nd n) false false false false 0) := by simp [exprnB, h]
  have e3 := all_in nd n (p := exprB) (q := classB 1) (nd n).nk rfl (fun k hk => class_ne hk) (fun k => rfl)
  rw [e1, e2, ← e3, exprs_all]
  grind [usesB, bareB]
theorem fit_35 {nd : Nat → ND} {n : Nat} (h : (nd n).kind = 35) : fitK (nd n) (kfN nd n) = (inB nd n && exprnB nd n) := by
  have e1 : fitK (nd n) (kfN nd n) = (usesB (nd n) true false false false false true && (((nd n).nk : Int) % 2 == 0) && allB (fun i => classB 1 (kfN nd n i)) 0 (nd n).nk && ((nd n).op == 0 || (nd n).op == 1 && decide (2 ≤ ((nd n).nk : Int)) && classB 6 (kfN nd n ((nd n).nk - 2)) && classB 5 (kfN nd n ((nd n).nk - 1)))) := by simp [fitK, h]
  have e2 : exprnB nd n = (((nd n).nk : Int) % 2 == 0 && exprsB nd n 0 (nd n).nk && spreadB nd n && bareB (nd n) true false false false 0) := by simp [exprnB, h]
  have e3 := all_in nd n (p := exprB) (q := classB 1) (nd n).nk rfl (fun k hk => class_ne hk) (fun k => rfl)
  rw [e1, e2, ← e3, exprs_all]
  by_cases hz : 2 ≤ (nd n).nk
  · have k1 := kid_kf nd n (i := (nd n).nk - 2) (by omega)
    have k2 := kid_kf nd n (i := (nd n).nk - 1) (by omega)
    grind [usesB, bareB, spreadB, manyB, c5, c6]
  · have hz' : decide ((2 : Int) ≤ ((nd n).nk : Int)) = false := by simp; omega
    grind [usesB, bareB, spreadB]
theorem fit_3 {nd : Nat → ND} {n : Nat} (h : (nd n).kind = 3) : fitK (nd n) (kfN nd n) = (inB nd n && stmtB nd n) := by
  have e1 : fitK (nd n) (kfN nd n) = (usesB (nd n) false true false false false true && decide (1 ≤ (nd n).num) && decide ((nd n).num < (nd n).nk) && allB (fun i => classB 7 (kfN nd n i)) 0 (nd n).num.toNat && allB (fun i => classB 1 (kfN nd n ((nd n).num.toNat + i))) 0 ((nd n).nk - (nd n).num.toNat)) := by simp [fitK, h]
  have e2 : stmtB nd n = (decide (1 ≤ (nd n).num) && decide ((nd n).num < (nd n).nk) && allB (fun i => targetB (kidK nd n i)) 0 (nd n).num.toNat && bareB (nd n) false true false false 0 && exprsB nd n (nd n).num.toNat (nd n).nk) := by simp [stmtB, h]
  rw [e1, e2]
  by_cases hz : 1 ≤ (nd n).num ∧ (nd n).num < (nd n).nk
  · have e3 : (allB (fun i => classB 7 (kfN nd n i)) 0 (nd n).num.toNat && allB (fun i => classB 1 (kfN nd n ((nd n).num.toNat + i))) 0 ((nd n).nk - (nd n).num.toNat)) = (inB nd n && (allB (fun i => targetB (kidK nd n i)) 0 (nd n).num.toNat && exprsB nd n (nd n).num.toNat (nd n).nk)) := by
      unfold exprsB
      rw [Bool.eq_iff_iff]
      simp only [Bool.and_eq_true, allB_iff]
      constructor
      · rintro ⟨h1, h2⟩
        refine ⟨in_of nd n fun i hi => ?_, fun j h0 hj => ?_, fun j h0 hj => ?_⟩
        · by_cases e : i < (nd n).num.toNat
          · exact class_ne (h1 i (Nat.zero_le _) (by omega))
          · have := h2 (i - (nd n).num.toNat) (Nat.zero_le _) (by omega)
            rw [show (nd n).num.toNat + (i - (nd n).num.toNat) = i by omega] at this
            exact class_ne this
        · rw [kid_kf nd n (by omega)]; exact h1 j h0 hj
        · rw [kid_kf nd n (by omega)]
          have := h2 (j - (nd n).num.toNat) (Nat.zero_le _) (by omega)
          rw [show (nd n).num.toNat + (j - (nd n).num.toNat) = j by omega] at this
          exact this
      · rintro ⟨_, h1, h2⟩
        refine ⟨fun j h0 hj => ?_, fun j h0 hj => ?_⟩
        · have := h1 j h0 hj
          rw [kid_kf nd n (by omega)] at this; exact this
        · have := h2 ((nd n).num.toNat + j) (by omega) (by omega)
          rw [kid_kf nd n (by omega)] at this; exact this
    grind [usesB, bareB]
  · have hz' : (decide (1 ≤ (nd n).num) && decide ((nd n).num < (nd n).nk)) = false := by
      rw [← Bool.not_eq_true]; simp; omega
    grind
theorem fit_5 {nd : Nat → ND} {n : Nat} (h : (nd n).kind = 5) : fitK (nd n) (kfN nd n) = (inB nd n && stmtB nd n) := by
  have e1 : fitK (nd n) (kfN nd n) = (usesB (nd n) false false false false false true && (kidsC [1, 2] (nd n).nk (kfN nd n) || kidsC [1, 2, 3] (nd n).nk (kfN nd n))) := by simp [fitK, h]
  have e2 : stmtB nd n = (((((nd n).nk : Int) == 2) || (((nd n).nk : Int) == 3) && (kidK nd n 2 == 1 || kidK nd n 2 == 5)) && exprsB nd n 0 1 && kidK nd n 1 == 1 && bareB (nd n) false false false false 0) := by simp [stmtB, h]
  rw [e1, e2]
  by_cases hz : (nd n).nk = 2
  · have k0 := kid_kf nd n (i := 0) (by omega)
    have k1 := kid_kf nd n (i := 1) (by omega)
    have h3 : kidsC [1, 2, 3] (nd n).nk (kfN nd n) = false := by rw [kidsC_three, hz]; rfl
    rw [h3, Bool.or_false]
    cases hx : kidsC [1, 2] (nd n).nk (kfN nd n)
    · simp only [kidsC_two, c1, c2] at hx
      have hx2 : (exprB (kfN nd n 0) && (kfN nd n 1 == 1)) = false := by simpa [hz] using hx
      grind [exprsB, allB]
    · rw [kidsC_in hx]
      simp only [kidsC_two, c1, c2] at hx
      have hx2 : (exprB (kfN nd n 0) && (kfN nd n 1 == 1)) = true := by simpa [hz] using hx
      grind [exprsB, allB, usesB, bareB]
  · by_cases hz3 : (nd n).nk = 3
    · have k0 := kid_kf nd n (i := 0) (by omega)
      have k1 := kid_kf nd n (i := 1) (by omega)
      have k2 := kid_kf nd n (i := 2) (by omega)
      have h3 : kidsC [1, 2] (nd n).nk (kfN nd n) = false := by rw [kidsC_two, hz3]; rfl
      rw [h3, Bool.false_or]
      cases hx : kidsC [1, 2, 3] (nd n).nk (kfN nd n)
      · simp only [kidsC_three, c1, c2, c3] at hx
        have hx2 : (exprB (kfN nd n 0) && ((kfN nd n 1 == 1) && (kfN nd n 2 == 1 || kfN nd n 2 == 5))) = false := by simpa [hz3] using hx
        grind [exprsB, allB]
      · rw [kidsC_in hx]
        simp only [kidsC_three, c1, c2, c3] at hx
        have hx2 : (exprB (kfN nd n 0) && ((kfN nd n 1 == 1) && (kfN nd n 2 == 1 || kfN nd n 2 == 5))) = true := by simpa [hz3] using hx
        grind [exprsB, allB, usesB, bareB]
    · have a2 : (((nd n).nk : Int) == 2) = false := by simp; omega
      have a3 : (((nd n).nk : Int) == 3) = false := by simp; omega
      rw [kidsC_two, kidsC_three, a2, a3]; simp
end Go.Proofs.YtjebijnndfkinaaGreat
