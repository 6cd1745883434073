import Derived.Test.YtnokgdgikdgaeaaP12
import Derived.Test.YtnokgdgikdgaeaaP13
import Derived.Test.YtnokgdgikdgaeaaP14
import Derived.Test.YtnokgdgikdgaeaaP15
namespace Go.Proofs.Ytnokgdgikdgaeaa
open Go.RowKit

def expn20 (_pd : Nat → PD) (d : PD) : Bool := decide (d.nk = 0) && bareP d false false false false
def expn21 (_pd : Nat → PD) (d : PD) : Bool := decide (d.nk = 0) && bareP d false false false false
def expn22 (_pd : Nat → PD) (d : PD) : Bool := decide (d.nk = 0) && bareP d false false false false
def expn23 (_pd : Nat → PD) (d : PD) : Bool := decide (d.nk = 0) && bareP d false true false false
def expn24 (_pd : Nat → PD) (d : PD) : Bool := decide (d.nk = 0) && (bareP { d with flt := 0 } false false false false && fnum d.flt)
def expn25 (_pd : Nat → PD) (d : PD) : Bool := decide (d.nk = 0) && (decide (d.text.size ≤ 4000) && bareP d false false true false)
def expn26 (_pd : Nat → PD) (d : PD) : Bool := decide (d.nk = 0) && ((bareP d false false true false) && nameB d.text)
def expn27 (_pd : Nat → PD) (d : PD) : Bool := decide (d.nk = 0) && bareP d false false false false
def expn28 (pd : Nat → PD) (d : PD) : Bool := decide (d.nk = 2) && ((exprsP pd d 0 2) && bareP d false false false false)
def expn29 (pd : Nat → PD) (d : PD) : Bool := decide (d.nk = 2) && ((exprsP pd d 0 2) && bareP d false false false false)
def expn30 (pd : Nat → PD) (d : PD) : Bool := decide (d.nk = 1) && (decide (19 ≤ d.op) && (decide (d.op ≤ 22) && ((exprsP pd d 0 1) && bareP d true false false false)))
def expn31 (pd : Nat → PD) (d : PD) : Bool := decide (d.nk = 2) && (decide (1 ≤ d.op) && (decide (d.op ≤ 18) && ((exprsP pd d 0 2) && bareP d true false false false)))
def expn32 (pd : Nat → PD) (d : PD) : Bool := decide (d.nk = 2) && ((exprsP pd d 0 2) && ((!(kidP pd d 0 == 27)) && bareP d false false false false))
def expn33 (pd : Nat → PD) (d : PD) : Bool := decide (d.nk = 1) && ((exprsP pd d 0 1) && ((!(kidP pd d 0 == 27)) && ((bareP d false false true false) && nameB d.text)))
def expn34 (pd : Nat → PD) (d : PD) : Bool := decide (0 < d.nk) && ((exprsP pd d 0 d.nk) && ((!(kidP pd d 0 == 27)) && bareP d false false false false))
def expn35 (pd : Nat → PD) (d : PD) : Bool := allB (fun j => entryP (kidP pd d j)) 0 d.nk && bareP d false false false false
def expn36 (pd : Nat → PD) (d : PD) : Bool := decide (d.nk = 1) && ((d.op == 0 || d.op == 1) && ((kidP pd d 0 == 1) && ((bareP d true false false true) && namedP d 0 200)))
def expn37 (pd : Nat → PD) (d : PD) : Bool := decide (d.nk = 1) && ((kidP pd d 0 == 34 || kidP pd d 0 == 27) && bareP d false false false false)
def expn40 (pd : Nat → PD) (d : PD) : Bool := decide (d.nk = 1) && ((exprsP pd d 0 1) && bareP d false false false false)
def expn41 (pd : Nat → PD) (d : PD) : Bool := decide (d.nk = 2) && ((exprsP pd d 0 2) && bareP d false false false false)
def expn42 (pd : Nat → PD) (d : PD) : Bool := decide (d.nk = 1) && ((exprsP pd d 0 1) && ((bareP d false false true false) && nameB d.text))
def expnP (pd : Nat → PD) (d : PD) : Bool :=
  if d.kind = 20 then expn20 pd d else
  if d.kind = 21 then expn21 pd d else
  if d.kind = 22 then expn22 pd d else
  if d.kind = 23 then expn23 pd d else
  if d.kind = 24 then expn24 pd d else
  if d.kind = 25 then expn25 pd d else
  if d.kind = 26 then expn26 pd d else
  if d.kind = 27 then expn27 pd d else
  if d.kind = 28 then expn28 pd d else
  if d.kind = 29 then expn29 pd d else
  if d.kind = 30 then expn30 pd d else
  if d.kind = 31 then expn31 pd d else
  if d.kind = 32 then expn32 pd d else
  if d.kind = 33 then expn33 pd d else
  if d.kind = 34 then expn34 pd d else
  if d.kind = 35 then expn35 pd d else
  if d.kind = 36 then expn36 pd d else
  if d.kind = 37 then expn37 pd d else
  if d.kind = 40 then expn40 pd d else
  if d.kind = 41 then expn41 pd d else
  if d.kind = 42 then expn42 pd d else
  false

set_option maxRecDepth 100000 in
set_option maxHeartbeats 2000000 in
theorem l6expression_any (t : TM) (m : PM) (w : World) (hn : t.np ≤ 1048576) (hk : m.nk ≤ 1048576) (hnn : m.nn ≤ 1048576) (htx : m.text.size ≤ 1048576) (hr : ∀ j, j < m.nk → 0 ≤ m.kd j ∧ m.kd j < t.np) (hz : ∀ i, i < m.nn → (m.nm i).size ≤ 1048576) (ht : t.At w) (hm : m.At w) :
    Calls Try.prog 23 #[.agg #[.slice t.pa t.np t.pc], .agg #[.int .i64 m.kind, .int .i64 m.frm, .int .i64 m.tto, .int .i64 m.line, .int .i64 m.op, .int .i64 m.num, .float .f64 m.flt, .string m.text, .slice m.na m.nn m.nc, .slice m.ka m.nk m.kc]] w fun e w' => e = .returned (.bool (expnP (pdOf t.pm) m.toPD)) ∧ Onw w w' := by
  obtain ⟨np, pm, pa, pc⟩ := t
  obtain ⟨⟨kind, frm, tto, line, op, num, flt, text, nn, nm, nk, kd⟩, na, nc, ka, kc⟩ := m
  simp only at *
  have hall : kind = 20 ∨ kind = 21 ∨ kind = 22 ∨ kind = 23 ∨ kind = 24 ∨ kind = 25 ∨ kind = 26 ∨ kind = 27 ∨ kind = 28 ∨ kind = 29 ∨ kind = 30 ∨ kind = 31 ∨ kind = 32 ∨ kind = 33 ∨ kind = 34 ∨ kind = 35 ∨ kind = 36 ∨ kind = 37 ∨ kind = 40 ∨ kind = 41 ∨ kind = 42 ∨ noKind kind = true := by simp [noKind, exprP]; omega
  rcases hall with rfl | rfl | rfl | rfl | rfl | rfl | rfl | rfl | rfl | rfl | rfl | rfl | rfl | rfl | rfl | rfl | rfl | rfl | rfl | rfl | rfl | hno
  · by_cases h : nk = 0
    · subst h
      exact ex20_0 w np pm pa pc frm tto line op num flt text nn nm kd na nc ka kc  ⟨hn, hk, hnn, htx, hr, hz, ht, hm⟩
    · have h0 : expn20 (pdOf pm) (⟨20, frm, tto, line, op, num, flt, text, nn, nm, nk, kd⟩ : PD) = false := by unfold expn20; rw [decide_eq_false (show ¬ (⟨20, frm, tto, line, op, num, flt, text, nn, nm, nk, kd⟩ : PD).nk = 0 from h)]; rfl
      refine (ex20_no w np pm pa pc frm tto line op num flt text nn nm nk kd na nc ka kc h ⟨hn, hk, hnn, htx, hr, hz, ht, hm⟩).mono ?_
      rintro e w' ⟨rfl, o⟩
      exact ⟨congrArg (fun b => Ending.returned (.bool b)) h0.symm, o⟩
  · by_cases h : nk = 0
    · subst h
      exact ex21_0 w np pm pa pc frm tto line op num flt text nn nm kd na nc ka kc  ⟨hn, hk, hnn, htx, hr, hz, ht, hm⟩
    · have h0 : expn21 (pdOf pm) (⟨21, frm, tto, line, op, num, flt, text, nn, nm, nk, kd⟩ : PD) = false := by unfold expn21; rw [decide_eq_false (show ¬ (⟨21, frm, tto, line, op, num, flt, text, nn, nm, nk, kd⟩ : PD).nk = 0 from h)]; rfl
      refine (ex21_no w np pm pa pc frm tto line op num flt text nn nm nk kd na nc ka kc h ⟨hn, hk, hnn, htx, hr, hz, ht, hm⟩).mono ?_
      rintro e w' ⟨rfl, o⟩
      exact ⟨congrArg (fun b => Ending.returned (.bool b)) h0.symm, o⟩
  · by_cases h : nk = 0
    · subst h
      exact ex22_0 w np pm pa pc frm tto line op num flt text nn nm kd na nc ka kc  ⟨hn, hk, hnn, htx, hr, hz, ht, hm⟩
    · have h0 : expn22 (pdOf pm) (⟨22, frm, tto, line, op, num, flt, text, nn, nm, nk, kd⟩ : PD) = false := by unfold expn22; rw [decide_eq_false (show ¬ (⟨22, frm, tto, line, op, num, flt, text, nn, nm, nk, kd⟩ : PD).nk = 0 from h)]; rfl
      refine (ex22_no w np pm pa pc frm tto line op num flt text nn nm nk kd na nc ka kc h ⟨hn, hk, hnn, htx, hr, hz, ht, hm⟩).mono ?_
      rintro e w' ⟨rfl, o⟩
      exact ⟨congrArg (fun b => Ending.returned (.bool b)) h0.symm, o⟩
  · by_cases h : nk = 0
    · subst h
      exact ex23_0 w np pm pa pc frm tto line op num flt text nn nm kd na nc ka kc  ⟨hn, hk, hnn, htx, hr, hz, ht, hm⟩
    · have h0 : expn23 (pdOf pm) (⟨23, frm, tto, line, op, num, flt, text, nn, nm, nk, kd⟩ : PD) = false := by unfold expn23; rw [decide_eq_false (show ¬ (⟨23, frm, tto, line, op, num, flt, text, nn, nm, nk, kd⟩ : PD).nk = 0 from h)]; rfl
      refine (ex23_no w np pm pa pc frm tto line op num flt text nn nm nk kd na nc ka kc h ⟨hn, hk, hnn, htx, hr, hz, ht, hm⟩).mono ?_
      rintro e w' ⟨rfl, o⟩
      exact ⟨congrArg (fun b => Ending.returned (.bool b)) h0.symm, o⟩
  · by_cases h : nk = 0
    · subst h
      exact ex24_0 w np pa pc frm tto line op num flt text nn nm kd na nc ka kc
    · have h0 : expn24 (pdOf pm) (⟨24, frm, tto, line, op, num, flt, text, nn, nm, nk, kd⟩ : PD) = false := by unfold expn24; rw [decide_eq_false (show ¬ (⟨24, frm, tto, line, op, num, flt, text, nn, nm, nk, kd⟩ : PD).nk = 0 from h)]; rfl
      refine (ex24_no w np pa pc frm tto line op num flt text nn nk na nc ka kc h).mono ?_
      rintro e w' ⟨rfl, o⟩
      exact ⟨congrArg (fun b => Ending.returned (.bool b)) h0.symm, o⟩
  · by_cases h : nk = 0
    · subst h
      by_cases h2 : text.size ≤ 4000
      · have h0 : expn25 (pdOf pm) (⟨25, frm, tto, line, op, num, flt, text, nn, nm, 0, kd⟩ : PD) = bareP (⟨25, frm, tto, line, op, num, flt, text, nn, nm, 0, kd⟩ : PD) false false true false := by unfold expn25; rw [decide_eq_true (show (⟨25, frm, tto, line, op, num, flt, text, nn, nm, 0, kd⟩ : PD).text.size ≤ 4000 from h2)]; rfl
        refine (ex25_0 w np pm pa pc frm tto line op num flt text nn nm kd na nc ka kc h2 ⟨hn, hk, hnn, htx, hr, hz, ht, hm⟩).mono ?_
        rintro e w' ⟨rfl, o⟩
        exact ⟨congrArg (fun b => Ending.returned (.bool b)) h0.symm, o⟩
      · have h0 : expn25 (pdOf pm) (⟨25, frm, tto, line, op, num, flt, text, nn, nm, 0, kd⟩ : PD) = false := by unfold expn25; rw [decide_eq_false (show ¬ (⟨25, frm, tto, line, op, num, flt, text, nn, nm, 0, kd⟩ : PD).text.size ≤ 4000 from h2)]; rfl
        refine (ex25_long w np pm pa pc frm tto line op num flt text nn nm kd na nc ka kc (by omega) ⟨hn, hk, hnn, htx, hr, hz, ht, hm⟩).mono ?_
        rintro e w' ⟨rfl, o⟩
        exact ⟨congrArg (fun b => Ending.returned (.bool b)) h0.symm, o⟩
    · have h0 : expn25 (pdOf pm) (⟨25, frm, tto, line, op, num, flt, text, nn, nm, nk, kd⟩ : PD) = false := by unfold expn25; rw [decide_eq_false (show ¬ (⟨25, frm, tto, line, op, num, flt, text, nn, nm, nk, kd⟩ : PD).nk = 0 from h)]; rfl
      refine (ex25_no w np pm pa pc frm tto line op num flt text nn nm nk kd na nc ka kc h ⟨hn, hk, hnn, htx, hr, hz, ht, hm⟩).mono ?_
      rintro e w' ⟨rfl, o⟩
      exact ⟨congrArg (fun b => Ending.returned (.bool b)) h0.symm, o⟩
  · by_cases h : nk = 0
    · subst h
      exact ex26_0 w np pm pa pc frm tto line op num flt text nn nm kd na nc ka kc  ⟨hn, hk, hnn, htx, hr, hz, ht, hm⟩
    · have h0 : expn26 (pdOf pm) (⟨26, frm, tto, line, op, num, flt, text, nn, nm, nk, kd⟩ : PD) = false := by unfold expn26; rw [decide_eq_false (show ¬ (⟨26, frm, tto, line, op, num, flt, text, nn, nm, nk, kd⟩ : PD).nk = 0 from h)]; rfl
      refine (ex26_no w np pm pa pc frm tto line op num flt text nn nm nk kd na nc ka kc h ⟨hn, hk, hnn, htx, hr, hz, ht, hm⟩).mono ?_
      rintro e w' ⟨rfl, o⟩
      exact ⟨congrArg (fun b => Ending.returned (.bool b)) h0.symm, o⟩
  · by_cases h : nk = 0
    · subst h
      exact ex27_0 w np pm pa pc frm tto line op num flt text nn nm kd na nc ka kc  ⟨hn, hk, hnn, htx, hr, hz, ht, hm⟩
    · have h0 : expn27 (pdOf pm) (⟨27, frm, tto, line, op, num, flt, text, nn, nm, nk, kd⟩ : PD) = false := by unfold expn27; rw [decide_eq_false (show ¬ (⟨27, frm, tto, line, op, num, flt, text, nn, nm, nk, kd⟩ : PD).nk = 0 from h)]; rfl
      refine (ex27_no w np pm pa pc frm tto line op num flt text nn nm nk kd na nc ka kc h ⟨hn, hk, hnn, htx, hr, hz, ht, hm⟩).mono ?_
      rintro e w' ⟨rfl, o⟩
      exact ⟨congrArg (fun b => Ending.returned (.bool b)) h0.symm, o⟩
  · by_cases h : nk = 2
    · subst h
      exact ex28_2 w np pm pa pc frm tto line op num flt text nn nm kd na nc ka kc  ⟨hn, hk, hnn, htx, hr, hz, ht, hm⟩
    · have h0 : expn28 (pdOf pm) (⟨28, frm, tto, line, op, num, flt, text, nn, nm, nk, kd⟩ : PD) = false := by unfold expn28; rw [decide_eq_false (show ¬ (⟨28, frm, tto, line, op, num, flt, text, nn, nm, nk, kd⟩ : PD).nk = 2 from h)]; rfl
      refine (ex28_no w np pm pa pc frm tto line op num flt text nn nm nk kd na nc ka kc h ⟨hn, hk, hnn, htx, hr, hz, ht, hm⟩).mono ?_
      rintro e w' ⟨rfl, o⟩
      exact ⟨congrArg (fun b => Ending.returned (.bool b)) h0.symm, o⟩
  · by_cases h : nk = 2
    · subst h
      exact ex29_2 w np pm pa pc frm tto line op num flt text nn nm kd na nc ka kc  ⟨hn, hk, hnn, htx, hr, hz, ht, hm⟩
    · have h0 : expn29 (pdOf pm) (⟨29, frm, tto, line, op, num, flt, text, nn, nm, nk, kd⟩ : PD) = false := by unfold expn29; rw [decide_eq_false (show ¬ (⟨29, frm, tto, line, op, num, flt, text, nn, nm, nk, kd⟩ : PD).nk = 2 from h)]; rfl
      refine (ex29_no w np pm pa pc frm tto line op num flt text nn nm nk kd na nc ka kc h ⟨hn, hk, hnn, htx, hr, hz, ht, hm⟩).mono ?_
      rintro e w' ⟨rfl, o⟩
      exact ⟨congrArg (fun b => Ending.returned (.bool b)) h0.symm, o⟩
  · by_cases h : nk = 1
    · subst h
      by_cases h1 : 19 ≤ op
      · by_cases h2 : op ≤ 22
        · have h0 : expn30 (pdOf pm) (⟨30, frm, tto, line, op, num, flt, text, nn, nm, 1, kd⟩ : PD) = (exprsP (pdOf pm) (⟨30, frm, tto, line, op, num, flt, text, nn, nm, 1, kd⟩ : PD) 0 1 && bareP (⟨30, frm, tto, line, op, num, flt, text, nn, nm, 1, kd⟩ : PD) true false false false) := by unfold expn30; rw [decide_eq_true (show 19 ≤ (⟨30, frm, tto, line, op, num, flt, text, nn, nm, 1, kd⟩ : PD).op from h1), decide_eq_true (show (⟨30, frm, tto, line, op, num, flt, text, nn, nm, 1, kd⟩ : PD).op ≤ 22 from h2)]; rfl
          refine (ex30_1 w np pm pa pc frm tto line op num flt text nn nm kd na nc ka kc h1 h2 ⟨hn, hk, hnn, htx, hr, hz, ht, hm⟩).mono ?_
          rintro e w' ⟨rfl, o⟩
          exact ⟨congrArg (fun b => Ending.returned (.bool b)) h0.symm, o⟩
        · have h0 : expn30 (pdOf pm) (⟨30, frm, tto, line, op, num, flt, text, nn, nm, 1, kd⟩ : PD) = false := by unfold expn30; rw [decide_eq_false (show ¬ (⟨30, frm, tto, line, op, num, flt, text, nn, nm, 1, kd⟩ : PD).op ≤ 22 from h2)]; simp
          refine (ex30_hi w np pm pa pc frm tto line op num flt text nn nm kd na nc ka kc h1 (by omega) ⟨hn, hk, hnn, htx, hr, hz, ht, hm⟩).mono ?_
          rintro e w' ⟨rfl, o⟩
          exact ⟨congrArg (fun b => Ending.returned (.bool b)) h0.symm, o⟩
      · have h0 : expn30 (pdOf pm) (⟨30, frm, tto, line, op, num, flt, text, nn, nm, 1, kd⟩ : PD) = false := by unfold expn30; rw [decide_eq_false (show ¬ 19 ≤ (⟨30, frm, tto, line, op, num, flt, text, nn, nm, 1, kd⟩ : PD).op from h1)]; simp
        refine (ex30_lo w np pm pa pc frm tto line op num flt text nn nm kd na nc ka kc (by omega) ⟨hn, hk, hnn, htx, hr, hz, ht, hm⟩).mono ?_
        rintro e w' ⟨rfl, o⟩
        exact ⟨congrArg (fun b => Ending.returned (.bool b)) h0.symm, o⟩
    · have h0 : expn30 (pdOf pm) (⟨30, frm, tto, line, op, num, flt, text, nn, nm, nk, kd⟩ : PD) = false := by unfold expn30; rw [decide_eq_false (show ¬ (⟨30, frm, tto, line, op, num, flt, text, nn, nm, nk, kd⟩ : PD).nk = 1 from h)]; rfl
      refine (ex30_no w np pm pa pc frm tto line op num flt text nn nm nk kd na nc ka kc h ⟨hn, hk, hnn, htx, hr, hz, ht, hm⟩).mono ?_
      rintro e w' ⟨rfl, o⟩
      exact ⟨congrArg (fun b => Ending.returned (.bool b)) h0.symm, o⟩
  · by_cases h : nk = 2
    · subst h
      by_cases h1 : 1 ≤ op
      · by_cases h2 : op ≤ 18
        · have h0 : expn31 (pdOf pm) (⟨31, frm, tto, line, op, num, flt, text, nn, nm, 2, kd⟩ : PD) = (exprsP (pdOf pm) (⟨31, frm, tto, line, op, num, flt, text, nn, nm, 2, kd⟩ : PD) 0 2 && bareP (⟨31, frm, tto, line, op, num, flt, text, nn, nm, 2, kd⟩ : PD) true false false false) := by unfold expn31; rw [decide_eq_true (show 1 ≤ (⟨31, frm, tto, line, op, num, flt, text, nn, nm, 2, kd⟩ : PD).op from h1), decide_eq_true (show (⟨31, frm, tto, line, op, num, flt, text, nn, nm, 2, kd⟩ : PD).op ≤ 18 from h2)]; rfl
          refine (ex31_2 w np pm pa pc frm tto line op num flt text nn nm kd na nc ka kc h1 h2 ⟨hn, hk, hnn, htx, hr, hz, ht, hm⟩).mono ?_
          rintro e w' ⟨rfl, o⟩
          exact ⟨congrArg (fun b => Ending.returned (.bool b)) h0.symm, o⟩
        · have h0 : expn31 (pdOf pm) (⟨31, frm, tto, line, op, num, flt, text, nn, nm, 2, kd⟩ : PD) = false := by unfold expn31; rw [decide_eq_false (show ¬ (⟨31, frm, tto, line, op, num, flt, text, nn, nm, 2, kd⟩ : PD).op ≤ 18 from h2)]; simp
          refine (ex31_hi w np pm pa pc frm tto line op num flt text nn nm kd na nc ka kc h1 (by omega) ⟨hn, hk, hnn, htx, hr, hz, ht, hm⟩).mono ?_
          rintro e w' ⟨rfl, o⟩
          exact ⟨congrArg (fun b => Ending.returned (.bool b)) h0.symm, o⟩
      · have h0 : expn31 (pdOf pm) (⟨31, frm, tto, line, op, num, flt, text, nn, nm, 2, kd⟩ : PD) = false := by unfold expn31; rw [decide_eq_false (show ¬ 1 ≤ (⟨31, frm, tto, line, op, num, flt, text, nn, nm, 2, kd⟩ : PD).op from h1)]; simp
        refine (ex31_lo w np pm pa pc frm tto line op num flt text nn nm kd na nc ka kc (by omega) ⟨hn, hk, hnn, htx, hr, hz, ht, hm⟩).mono ?_
        rintro e w' ⟨rfl, o⟩
        exact ⟨congrArg (fun b => Ending.returned (.bool b)) h0.symm, o⟩
    · have h0 : expn31 (pdOf pm) (⟨31, frm, tto, line, op, num, flt, text, nn, nm, nk, kd⟩ : PD) = false := by unfold expn31; rw [decide_eq_false (show ¬ (⟨31, frm, tto, line, op, num, flt, text, nn, nm, nk, kd⟩ : PD).nk = 2 from h)]; rfl
      refine (ex31_no w np pm pa pc frm tto line op num flt text nn nm nk kd na nc ka kc h ⟨hn, hk, hnn, htx, hr, hz, ht, hm⟩).mono ?_
      rintro e w' ⟨rfl, o⟩
      exact ⟨congrArg (fun b => Ending.returned (.bool b)) h0.symm, o⟩
  · by_cases h : nk = 2
    · subst h
      exact ex32_2 w np pm pa pc frm tto line op num flt text nn nm kd na nc ka kc  ⟨hn, hk, hnn, htx, hr, hz, ht, hm⟩
    · have h0 : expn32 (pdOf pm) (⟨32, frm, tto, line, op, num, flt, text, nn, nm, nk, kd⟩ : PD) = false := by unfold expn32; rw [decide_eq_false (show ¬ (⟨32, frm, tto, line, op, num, flt, text, nn, nm, nk, kd⟩ : PD).nk = 2 from h)]; rfl
      refine (ex32_no w np pm pa pc frm tto line op num flt text nn nm nk kd na nc ka kc h ⟨hn, hk, hnn, htx, hr, hz, ht, hm⟩).mono ?_
      rintro e w' ⟨rfl, o⟩
      exact ⟨congrArg (fun b => Ending.returned (.bool b)) h0.symm, o⟩
  · by_cases h : nk = 1
    · subst h
      exact ex33_1 w np pm pa pc frm tto line op num flt text nn nm kd na nc ka kc  ⟨hn, hk, hnn, htx, hr, hz, ht, hm⟩
    · have h0 : expn33 (pdOf pm) (⟨33, frm, tto, line, op, num, flt, text, nn, nm, nk, kd⟩ : PD) = false := by unfold expn33; rw [decide_eq_false (show ¬ (⟨33, frm, tto, line, op, num, flt, text, nn, nm, nk, kd⟩ : PD).nk = 1 from h)]; rfl
      refine (ex33_no w np pm pa pc frm tto line op num flt text nn nm nk kd na nc ka kc h ⟨hn, hk, hnn, htx, hr, hz, ht, hm⟩).mono ?_
      rintro e w' ⟨rfl, o⟩
      exact ⟨congrArg (fun b => Ending.returned (.bool b)) h0.symm, o⟩
  · by_cases h : nk = 0
    · subst h; exact ex34_0 w np pm pa pc frm tto line op num flt text nn nm kd na nc ka kc  ⟨hn, hk, hnn, htx, hr, hz, ht, hm⟩
    · have h0 : expn34 (pdOf pm) (⟨34, frm, tto, line, op, num, flt, text, nn, nm, nk, kd⟩ : PD) = (exprsP (pdOf pm) (⟨34, frm, tto, line, op, num, flt, text, nn, nm, nk, kd⟩ : PD) 0 nk && ((!(kidP (pdOf pm) (⟨34, frm, tto, line, op, num, flt, text, nn, nm, nk, kd⟩ : PD) 0 == 27)) && bareP (⟨34, frm, tto, line, op, num, flt, text, nn, nm, nk, kd⟩ : PD) false false false false)) := by unfold expn34; rw [decide_eq_true (show 0 < (⟨34, frm, tto, line, op, num, flt, text, nn, nm, nk, kd⟩ : PD).nk from by show 0 < nk; omega)]; rfl
      refine (ex34_nk w np pm pa pc frm tto line op num flt text nn nm nk kd na nc ka kc (by omega) ⟨hn, hk, hnn, htx, hr, hz, ht, hm⟩).mono ?_
      rintro e w' ⟨rfl, o⟩
      exact ⟨congrArg (fun b => Ending.returned (.bool b)) h0.symm, o⟩
  · exact ex35_nk w np pm pa pc frm tto line op num flt text nn nm nk kd na nc ka kc hn hk hr ht hm
  · by_cases h : nk = 1
    · subst h
      by_cases h1 : op = 0
      · subst h1; exact ex36_a w np pm pa pc frm tto line num flt text nn nm kd na nc ka kc  ⟨hn, hk, hnn, htx, hr, hz, ht, hm⟩
      by_cases h2 : op = 1
      · subst h2; exact ex36_b w np pm pa pc frm tto line num flt text nn nm kd na nc ka kc  ⟨hn, hk, hnn, htx, hr, hz, ht, hm⟩
      have h0 : expn36 (pdOf pm) (⟨36, frm, tto, line, op, num, flt, text, nn, nm, 1, kd⟩ : PD) = false := by unfold expn36; rw [show ((⟨36, frm, tto, line, op, num, flt, text, nn, nm, 1, kd⟩ : PD).op == 0) = false from beq_false_of_ne h1, show ((⟨36, frm, tto, line, op, num, flt, text, nn, nm, 1, kd⟩ : PD).op == 1) = false from beq_false_of_ne h2]; simp
      refine (ex36_c w np pm pa pc frm tto line op num flt text nn nm kd na nc ka kc h1 h2 ⟨hn, hk, hnn, htx, hr, hz, ht, hm⟩).mono ?_
      rintro e w' ⟨rfl, o⟩
      exact ⟨congrArg (fun b => Ending.returned (.bool b)) h0.symm, o⟩
    · have h0 : expn36 (pdOf pm) (⟨36, frm, tto, line, op, num, flt, text, nn, nm, nk, kd⟩ : PD) = false := by unfold expn36; rw [decide_eq_false (show ¬ (⟨36, frm, tto, line, op, num, flt, text, nn, nm, nk, kd⟩ : PD).nk = 1 from h)]; rfl
      refine (ex36_no w np pm pa pc frm tto line op num flt text nn nm nk kd na nc ka kc h ⟨hn, hk, hnn, htx, hr, hz, ht, hm⟩).mono ?_
      rintro e w' ⟨rfl, o⟩
      exact ⟨congrArg (fun b => Ending.returned (.bool b)) h0.symm, o⟩
  · by_cases h : nk = 1
    · subst h
      obtain ⟨q, hq⟩ : ∃ q, kidP (pdOf pm) (⟨37, frm, tto, line, op, num, flt, text, nn, nm, 1, kd⟩ : PD) 0 = q := ⟨_, rfl⟩
      have h0 : expn37 (pdOf pm) (⟨37, frm, tto, line, op, num, flt, text, nn, nm, 1, kd⟩ : PD) = ((q == 34 || q == 27) && bareP (⟨37, frm, tto, line, op, num, flt, text, nn, nm, 1, kd⟩ : PD) false false false false) := by unfold expn37; rw [hq]; rfl
      by_cases q1 : q = 34
      · refine (ex37_a w np pm pa pc frm tto line op num flt text nn nm kd na nc ka kc (hq.trans q1) ⟨hn, hk, hnn, htx, hr, hz, ht, hm⟩).mono ?_
        rintro e w' ⟨rfl, o⟩
        exact ⟨congrArg (fun b => Ending.returned (.bool b)) (h0.trans (by rw [q1]; simp)).symm, o⟩
      by_cases q7 : q = 27
      · refine (ex37_b w np pm pa pc frm tto line op num flt text nn nm kd na nc ka kc (hq.trans q7) ⟨hn, hk, hnn, htx, hr, hz, ht, hm⟩).mono ?_
        rintro e w' ⟨rfl, o⟩
        exact ⟨congrArg (fun b => Ending.returned (.bool b)) (h0.trans (by rw [q7]; simp)).symm, o⟩
      refine (ex37_c w np pm pa pc frm tto line op num flt text nn nm kd na nc ka kc q hq q1 q7 ⟨hn, hk, hnn, htx, hr, hz, ht, hm⟩).mono ?_
      rintro e w' ⟨rfl, o⟩
      exact ⟨congrArg (fun b => Ending.returned (.bool b)) (h0.trans (by rw [beq_false_of_ne q1, beq_false_of_ne q7]; rfl)).symm, o⟩
    · have h0 : expn37 (pdOf pm) (⟨37, frm, tto, line, op, num, flt, text, nn, nm, nk, kd⟩ : PD) = false := by unfold expn37; rw [decide_eq_false (show ¬ (⟨37, frm, tto, line, op, num, flt, text, nn, nm, nk, kd⟩ : PD).nk = 1 from h)]; rfl
      refine (ex37_no w np pm pa pc frm tto line op num flt text nn nm nk kd na nc ka kc h ⟨hn, hk, hnn, htx, hr, hz, ht, hm⟩).mono ?_
      rintro e w' ⟨rfl, o⟩
      exact ⟨congrArg (fun b => Ending.returned (.bool b)) h0.symm, o⟩
  · by_cases h : nk = 1
    · subst h
      exact ex40_1 w np pm pa pc frm tto line op num flt text nn nm kd na nc ka kc  ⟨hn, hk, hnn, htx, hr, hz, ht, hm⟩
    · have h0 : expn40 (pdOf pm) (⟨40, frm, tto, line, op, num, flt, text, nn, nm, nk, kd⟩ : PD) = false := by unfold expn40; rw [decide_eq_false (show ¬ (⟨40, frm, tto, line, op, num, flt, text, nn, nm, nk, kd⟩ : PD).nk = 1 from h)]; rfl
      refine (ex40_no w np pm pa pc frm tto line op num flt text nn nm nk kd na nc ka kc h ⟨hn, hk, hnn, htx, hr, hz, ht, hm⟩).mono ?_
      rintro e w' ⟨rfl, o⟩
      exact ⟨congrArg (fun b => Ending.returned (.bool b)) h0.symm, o⟩
  · by_cases h : nk = 2
    · subst h
      exact ex41_2 w np pm pa pc frm tto line op num flt text nn nm kd na nc ka kc  ⟨hn, hk, hnn, htx, hr, hz, ht, hm⟩
    · have h0 : expn41 (pdOf pm) (⟨41, frm, tto, line, op, num, flt, text, nn, nm, nk, kd⟩ : PD) = false := by unfold expn41; rw [decide_eq_false (show ¬ (⟨41, frm, tto, line, op, num, flt, text, nn, nm, nk, kd⟩ : PD).nk = 2 from h)]; rfl
      refine (ex41_no w np pm pa pc frm tto line op num flt text nn nm nk kd na nc ka kc h ⟨hn, hk, hnn, htx, hr, hz, ht, hm⟩).mono ?_
      rintro e w' ⟨rfl, o⟩
      exact ⟨congrArg (fun b => Ending.returned (.bool b)) h0.symm, o⟩
  · by_cases h : nk = 1
    · subst h
      exact ex42_1 w np pm pa pc frm tto line op num flt text nn nm kd na nc ka kc  ⟨hn, hk, hnn, htx, hr, hz, ht, hm⟩
    · have h0 : expn42 (pdOf pm) (⟨42, frm, tto, line, op, num, flt, text, nn, nm, nk, kd⟩ : PD) = false := by unfold expn42; rw [decide_eq_false (show ¬ (⟨42, frm, tto, line, op, num, flt, text, nn, nm, nk, kd⟩ : PD).nk = 1 from h)]; rfl
      refine (ex42_no w np pm pa pc frm tto line op num flt text nn nm nk kd na nc ka kc h ⟨hn, hk, hnn, htx, hr, hz, ht, hm⟩).mono ?_
      rintro e w' ⟨rfl, o⟩
      exact ⟨congrArg (fun b => Ending.returned (.bool b)) h0.symm, o⟩
  · have h0 : expnP (pdOf pm) (⟨kind, frm, tto, line, op, num, flt, text, nn, nm, nk, kd⟩ : PD) = false := by
      have k20 : ¬ kind = 20 := by rintro rfl; revert hno; decide
      have k21 : ¬ kind = 21 := by rintro rfl; revert hno; decide
      have k22 : ¬ kind = 22 := by rintro rfl; revert hno; decide
      have k23 : ¬ kind = 23 := by rintro rfl; revert hno; decide
      have k24 : ¬ kind = 24 := by rintro rfl; revert hno; decide
      have k25 : ¬ kind = 25 := by rintro rfl; revert hno; decide
      have k26 : ¬ kind = 26 := by rintro rfl; revert hno; decide
      have k27 : ¬ kind = 27 := by rintro rfl; revert hno; decide
      have k28 : ¬ kind = 28 := by rintro rfl; revert hno; decide
      have k29 : ¬ kind = 29 := by rintro rfl; revert hno; decide
      have k30 : ¬ kind = 30 := by rintro rfl; revert hno; decide
      have k31 : ¬ kind = 31 := by rintro rfl; revert hno; decide
      have k32 : ¬ kind = 32 := by rintro rfl; revert hno; decide
      have k33 : ¬ kind = 33 := by rintro rfl; revert hno; decide
      have k34 : ¬ kind = 34 := by rintro rfl; revert hno; decide
      have k35 : ¬ kind = 35 := by rintro rfl; revert hno; decide
      have k36 : ¬ kind = 36 := by rintro rfl; revert hno; decide
      have k37 : ¬ kind = 37 := by rintro rfl; revert hno; decide
      have k40 : ¬ kind = 40 := by rintro rfl; revert hno; decide
      have k41 : ¬ kind = 41 := by rintro rfl; revert hno; decide
      have k42 : ¬ kind = 42 := by rintro rfl; revert hno; decide
      unfold expnP; simp only [k20, k21, k22, k23, k24, k25, k26, k27, k28, k29, k30, k31, k32, k33, k34, k35, k36, k37, k40, k41, k42, if_false]
    refine (exNo w np pa pc kind frm tto line op num flt text nn nk na nc ka kc hno).mono ?_
    rintro e w' ⟨rfl, o⟩
    exact ⟨congrArg (fun b => Ending.returned (.bool b)) h0.symm, o⟩
end Go.Proofs.Ytnokgdgikdgaeaa

namespace Go.Proofs.Ytnokgdgikdgaeaa
open Go.RowKit
attribute [local go_sem] run_store_float

def kidsIn (d : PD) (i : Nat) : Bool := allB (fun j => decide (0 ≤ d.kd j) && decide (d.kd j < i)) 0 d.nk
def shapeP (pd : Nat → PD) (d : PD) : Bool := bif statP d.kind then stmtP pd d else expnP pd d
def nodeP (pd : Nat → PD) (d : PD) (i : Nat) : Bool :=
  decide (0 ≤ d.frm) && (decide (d.frm ≤ d.tto) && (decide (0 ≤ d.line) && (decide (d.line ≤ 100000) && (decide (d.nk ≤ 200) && (!(statP d.kind && d.line == 0) && (kidsIn d i && shapeP pd d))))))

/-- What a part of a tree may be as great as. -/
def PM.Slight (m : PM) : Prop := m.nk ≤ 1048576 ∧ m.nn ≤ 1048576 ∧ m.text.size ≤ 1048576 ∧ ∀ i, i < m.nn → (m.nm i).size ≤ 1048576

set_option maxRecDepth 100000 in
set_option maxHeartbeats 2000000 in
theorem l6nodeok_any (t : TM) (i : Nat) (w : World) (hn : t.np ≤ 1048576) (hi : i < t.np) (hs : (t.pm i).Slight) (ht : t.At w) :
    Calls Try.prog 11 #[.agg #[.slice t.pa t.np t.pc], .int .i64 i] w fun e w' => e = .returned (.bool (nodeP (pdOf t.pm) (t.pm i).toPD i)) ∧ Onw w w' := by
  obtain ⟨np, pm, pa, pc⟩ := t
  simp only at *
  obtain ⟨m, hmi⟩ : ∃ m, pm i = m := ⟨_, rfl⟩
  obtain ⟨b, off, hpa, hc⟩ := ht.1 (by show 0 < np; omega)
  simp only at hpa
  subst hpa
  have C := hc i hi
  have hm := ht.2 i hi
  simp only at C hm
  rw [hmi] at C hm hs
  rw [hmi]
  clear hc hmi
  obtain ⟨⟨kind, frm, tto, line, op, num, flt, text, nn, nm, nk, kd⟩, na, nc, ka, kc⟩ := m
  obtain ⟨c0, c1, c2, c3, c4, c5, c6, c7, c8, c9⟩ := C
  obtain ⟨hk, hnn, htx, hz⟩ := hs
  simp only at *
  have i0 : (0 : Int) ≤ (i : Int) := by omega
  have i1 : (i : Int) < (np : Int) := by omega
  have ob := Two.start w (some ⟨b, off, none⟩) np pc kind frm tto line op num flt text na nn nc ka nk kc
  have T := Two.new w (some ⟨b, off, none⟩) np pc kind frm tto line op num flt text na nn nc ka nk kc
  have z1 := cell_lt c0
  by_cases h1 : 0 ≤ frm
  ·
    by_cases h2 : frm ≤ tto
    ·
      by_cases h3 : 0 ≤ line
      ·
        by_cases h4 : line ≤ 100000
        ·
          by_cases h5 : nk ≤ 200
          ·
            have fin : Hid (nodeP (pdOf pm) (⟨kind, frm, tto, line, op, num, flt, text, nn, nm, nk, kd⟩ : PD) i = (!(statP kind && line == 0) && (kidsIn (⟨kind, frm, tto, line, op, num, flt, text, nn, nm, nk, kd⟩ : PD) i && shapeP (pdOf pm) (⟨kind, frm, tto, line, op, num, flt, text, nn, nm, nk, kd⟩ : PD)))) := by
              show _ = _
              unfold nodeP; rw [decide_eq_true (show 0 ≤ (⟨kind, frm, tto, line, op, num, flt, text, nn, nm, nk, kd⟩ : PD).frm from h1), decide_eq_true (show (⟨kind, frm, tto, line, op, num, flt, text, nn, nm, nk, kd⟩ : PD).frm ≤ (⟨kind, frm, tto, line, op, num, flt, text, nn, nm, nk, kd⟩ : PD).tto from h2), decide_eq_true (show 0 ≤ (⟨kind, frm, tto, line, op, num, flt, text, nn, nm, nk, kd⟩ : PD).line from h3), decide_eq_true (show (⟨kind, frm, tto, line, op, num, flt, text, nn, nm, nk, kd⟩ : PD).line ≤ 100000 from h4), decide_eq_true (show (⟨kind, frm, tto, line, op, num, flt, text, nn, nm, nk, kd⟩ : PD).nk ≤ 200 from h5)]; rfl
            go_enter Try.func11, Try.ntmps11
            go_wp2_with fail
            refine (l6stat_any kind _).mono ?_
            rintro e w1 ⟨rfl, rfl⟩
            cases hst : statP kind
            ·
              have fin2 : Hid (nodeP (pdOf pm) (⟨kind, frm, tto, line, op, num, flt, text, nn, nm, nk, kd⟩ : PD) i = (allB (fun j => decide (0 ≤ kd j) && decide (kd j < (i : Int))) 0 nk && expnP (pdOf pm) (⟨kind, frm, tto, line, op, num, flt, text, nn, nm, nk, kd⟩ : PD))) := by
                show _ = _
                rw [fin.out, hst]; unfold shapeP; rw [show statP (⟨kind, frm, tto, line, op, num, flt, text, nn, nm, nk, kd⟩ : PD).kind = false from hst]; rfl
              go_wp2_with fail
              go_loopw [50] (fun x wr => ∃ j : Nat, j ≤ nk ∧ x = .int .i64 j ∧ Onw w wr ∧ Two wr w.heap.size (some ⟨b, off, none⟩) np pc kind frm tto line op num flt text na nn nc ka nk kc ∧ (∀ k, k < j → 0 ≤ kd k ∧ kd k < i) ∧ allB (fun j => decide (0 ≤ kd j) && decide (kd j < (i : Int))) 0 nk = allB (fun j => decide (0 ≤ kd j) && decide (kd j < (i : Int))) j (nk - j)) (fun x _ => nk - (intOf x).toNat)
              case atStart => exact ⟨0, Nat.zero_le _, rfl, ob, T, fun k hk0 => absurd hk0 (Nat.not_lt_zero _), rfl⟩
              case round =>
                clear ob T
                obtain ⟨j, hj, rfl, ob, T, hin, hq⟩ := hrel
                have HQ : Hid _ := hq
                have HI : Hid _ := hin
                clear hq hin
                by_cases hlt : j < nk
                · obtain ⟨kb, ko, hka, hcc⟩ := (hm.onw ob).2 (show 0 < nk by omega)
                  simp only at hka
                  subst hka
                  have k0 := hcc j hlt
                  simp only at k0
                  have z2 := cell_lt k0
                  clear hcc
                  have st : Hid (allB (fun j => decide (0 ≤ kd j) && decide (kd j < (i : Int))) j (nk - j) = ((decide (0 ≤ kd j) && decide (kd j < (i : Int))) && allB (fun j => decide (0 ≤ kd j) && decide (kd j < (i : Int))) (j + 1) (nk - (j + 1)))) := by
                    show _ = _
                    rw [show nk - j = (nk - (j + 1)) + 1 from by omega]; rfl
                  obtain ⟨x, hx⟩ : ∃ x, kd j = x := ⟨_, rfl⟩
                  rw [hx] at k0
                  have HX : Hid _ := hx
                  clear hx
                  obtain ⟨t0, d0, d1, d2, d3, d4, d5, d6, d7, d8, d9⟩ := T
                  by_cases y0 : 0 ≤ x
                  · by_cases y1 : x < (i : Int)
                    · go_wp2_with fail
                      go_roundw
                      case rel => exact ⟨j + 1, by omega, by go_num, ob, ⟨t0, d0, d1, d2, d3, d4, d5, d6, d7, d8, d9⟩, fun k hk1 => by
                        by_cases hkj : k = j
                        · subst hkj; rw [HX.out]; exact ⟨y0, y1⟩
                        · exact HI.out k (by omega), by rw [HQ.out, st.out, HX.out, decide_eq_true y0, decide_eq_true y1]; rfl⟩
                      case measure => simp [intOf]; omega
                    · go_wp2_with fail
                      go_ret
                      exact ⟨ret_bool (by rw [fin2.out, HQ.out, st.out, HX.out, decide_eq_false (show ¬ x < (i : Int) by omega)]; simp), ob⟩
                  · go_wp2_with fail
                    go_ret
                    exact ⟨ret_bool (by rw [fin2.out, HQ.out, st.out, HX.out, decide_eq_false (show ¬ 0 ≤ x by omega)]; simp), ob⟩
                · have st : Hid (allB (fun j => decide (0 ≤ kd j) && decide (kd j < (i : Int))) j (nk - j) = true) := by
                    show _ = _
                    rw [show nk - j = 0 from by omega]; rfl
                  have hr : ∀ k, k < nk → 0 ≤ kd k ∧ kd k < (np : Int) := fun k hk1 => ⟨(HI.out k (by omega)).1, by have := (HI.out k (by omega)).2; omega⟩
                  have HRR : Hid _ := hr
                  clear hr
                  obtain ⟨t0, d0, d1, d2, d3, d4, d5, d6, d7, d8, d9⟩ := T
                  go_wp2_with fail
                  refine (l6stat_any kind _).mono ?_
                  rintro e w1 ⟨rfl, rfl⟩
                  rw [hst]
                  go_wp2_with fail
                  have hr := HRR.out
                  refine (l6expression_any ⟨np, pm, some ⟨b, off, none⟩, pc⟩ ⟨⟨kind, frm, tto, line, op, num, flt, text, nn, nm, nk, kd⟩, na, nc, ka, kc⟩ _ hn hk hnn htx hr hz (TM.At.onw ob ht) (PM.At.onw ob hm)).mono ?_
                  rintro e w2 ⟨rfl, O2⟩
                  go_wp2_with fail
                  go_ret
                  exact ⟨ret_bool (by rw [fin2.out, HQ.out, st.out]; rfl), ob.trans O2⟩
            · by_cases hl : line = 0
              · have fin2 : Hid (nodeP (pdOf pm) (⟨kind, frm, tto, line, op, num, flt, text, nn, nm, nk, kd⟩ : PD) i = false) := by
                  show _ = _
                  rw [fin.out, hst, hl]; rfl
                subst hl
                go_wp2_with fail
                go_ret
                exact ⟨ret_bool fin2.out.symm, ob⟩
              ·
                have fin2 : Hid (nodeP (pdOf pm) (⟨kind, frm, tto, line, op, num, flt, text, nn, nm, nk, kd⟩ : PD) i = (allB (fun j => decide (0 ≤ kd j) && decide (kd j < (i : Int))) 0 nk && stmtP (pdOf pm) (⟨kind, frm, tto, line, op, num, flt, text, nn, nm, nk, kd⟩ : PD))) := by
                  show _ = _
                  rw [fin.out, hst, beq_false_of_ne hl]; unfold shapeP; rw [show statP (⟨kind, frm, tto, line, op, num, flt, text, nn, nm, nk, kd⟩ : PD).kind = true from hst]; rfl
                have hl0 : (line == 0) = false := beq_false_of_ne hl
                clear hl
                go_wp2_with fail
                go_loopw [50] (fun x wr => ∃ j : Nat, j ≤ nk ∧ x = .int .i64 j ∧ Onw w wr ∧ Two wr w.heap.size (some ⟨b, off, none⟩) np pc kind frm tto line op num flt text na nn nc ka nk kc ∧ (∀ k, k < j → 0 ≤ kd k ∧ kd k < i) ∧ allB (fun j => decide (0 ≤ kd j) && decide (kd j < (i : Int))) 0 nk = allB (fun j => decide (0 ≤ kd j) && decide (kd j < (i : Int))) j (nk - j)) (fun x _ => nk - (intOf x).toNat)
                case atStart => exact ⟨0, Nat.zero_le _, rfl, ob, T, fun k hk0 => absurd hk0 (Nat.not_lt_zero _), rfl⟩
                case round =>
                  clear ob T
                  obtain ⟨j, hj, rfl, ob, T, hin, hq⟩ := hrel
                  have HQ : Hid _ := hq
                  have HI : Hid _ := hin
                  clear hq hin
                  by_cases hlt : j < nk
                  · obtain ⟨kb, ko, hka, hcc⟩ := (hm.onw ob).2 (show 0 < nk by omega)
                    simp only at hka
                    subst hka
                    have k0 := hcc j hlt
                    simp only at k0
                    have z2 := cell_lt k0
                    clear hcc
                    have st : Hid (allB (fun j => decide (0 ≤ kd j) && decide (kd j < (i : Int))) j (nk - j) = ((decide (0 ≤ kd j) && decide (kd j < (i : Int))) && allB (fun j => decide (0 ≤ kd j) && decide (kd j < (i : Int))) (j + 1) (nk - (j + 1)))) := by
                      show _ = _
                      rw [show nk - j = (nk - (j + 1)) + 1 from by omega]; rfl
                    obtain ⟨x, hx⟩ : ∃ x, kd j = x := ⟨_, rfl⟩
                    rw [hx] at k0
                    have HX : Hid _ := hx
                    clear hx
                    obtain ⟨t0, d0, d1, d2, d3, d4, d5, d6, d7, d8, d9⟩ := T
                    by_cases y0 : 0 ≤ x
                    · by_cases y1 : x < (i : Int)
                      · go_wp2_with fail
                        go_roundw
                        case rel => exact ⟨j + 1, by omega, by go_num, ob, ⟨t0, d0, d1, d2, d3, d4, d5, d6, d7, d8, d9⟩, fun k hk1 => by
                          by_cases hkj : k = j
                          · subst hkj; rw [HX.out]; exact ⟨y0, y1⟩
                          · exact HI.out k (by omega), by rw [HQ.out, st.out, HX.out, decide_eq_true y0, decide_eq_true y1]; rfl⟩
                        case measure => simp [intOf]; omega
                      · go_wp2_with fail
                        go_ret
                        exact ⟨ret_bool (by rw [fin2.out, HQ.out, st.out, HX.out, decide_eq_false (show ¬ x < (i : Int) by omega)]; simp), ob⟩
                    · go_wp2_with fail
                      go_ret
                      exact ⟨ret_bool (by rw [fin2.out, HQ.out, st.out, HX.out, decide_eq_false (show ¬ 0 ≤ x by omega)]; simp), ob⟩
                  · have st : Hid (allB (fun j => decide (0 ≤ kd j) && decide (kd j < (i : Int))) j (nk - j) = true) := by
                      show _ = _
                      rw [show nk - j = 0 from by omega]; rfl
                    have hr : ∀ k, k < nk → 0 ≤ kd k ∧ kd k < (np : Int) := fun k hk1 => ⟨(HI.out k (by omega)).1, by have := (HI.out k (by omega)).2; omega⟩
                    have HRR : Hid _ := hr
                    clear hr
                    obtain ⟨t0, d0, d1, d2, d3, d4, d5, d6, d7, d8, d9⟩ := T
                    go_wp2_with fail
                    refine (l6stat_any kind _).mono ?_
                    rintro e w1 ⟨rfl, rfl⟩
                    rw [hst]
                    go_wp2_with fail
                    have hr := HRR.out
                    refine (l6statement_any ⟨np, pm, some ⟨b, off, none⟩, pc⟩ ⟨⟨kind, frm, tto, line, op, num, flt, text, nn, nm, nk, kd⟩, na, nc, ka, kc⟩ _ hst hn hk hnn htx hr hz (TM.At.onw ob ht) (PM.At.onw ob hm)).mono ?_
                    rintro e w2 ⟨rfl, O2⟩
                    go_wp2_with fail
                    go_ret
                    exact ⟨ret_bool (by rw [fin2.out, HQ.out, st.out]; rfl), ob.trans O2⟩
          · have fin : Hid (nodeP (pdOf pm) (⟨kind, frm, tto, line, op, num, flt, text, nn, nm, nk, kd⟩ : PD) i = false) := by
              show _ = _
              unfold nodeP; rw [decide_eq_true (show 0 ≤ (⟨kind, frm, tto, line, op, num, flt, text, nn, nm, nk, kd⟩ : PD).frm from h1), decide_eq_true (show (⟨kind, frm, tto, line, op, num, flt, text, nn, nm, nk, kd⟩ : PD).frm ≤ (⟨kind, frm, tto, line, op, num, flt, text, nn, nm, nk, kd⟩ : PD).tto from h2), decide_eq_true (show 0 ≤ (⟨kind, frm, tto, line, op, num, flt, text, nn, nm, nk, kd⟩ : PD).line from h3), decide_eq_true (show (⟨kind, frm, tto, line, op, num, flt, text, nn, nm, nk, kd⟩ : PD).line ≤ 100000 from h4), decide_eq_false (show ¬ (⟨kind, frm, tto, line, op, num, flt, text, nn, nm, nk, kd⟩ : PD).nk ≤ 200 from h5)]; rfl
            go_enter Try.func11, Try.ntmps11
            go_wp2_with fail
            go_ret
            exact ⟨ret_bool fin.out.symm, ob⟩
        · have fin : Hid (nodeP (pdOf pm) (⟨kind, frm, tto, line, op, num, flt, text, nn, nm, nk, kd⟩ : PD) i = false) := by
            show _ = _
            unfold nodeP; rw [decide_eq_true (show 0 ≤ (⟨kind, frm, tto, line, op, num, flt, text, nn, nm, nk, kd⟩ : PD).frm from h1), decide_eq_true (show (⟨kind, frm, tto, line, op, num, flt, text, nn, nm, nk, kd⟩ : PD).frm ≤ (⟨kind, frm, tto, line, op, num, flt, text, nn, nm, nk, kd⟩ : PD).tto from h2), decide_eq_true (show 0 ≤ (⟨kind, frm, tto, line, op, num, flt, text, nn, nm, nk, kd⟩ : PD).line from h3), decide_eq_false (show ¬ (⟨kind, frm, tto, line, op, num, flt, text, nn, nm, nk, kd⟩ : PD).line ≤ 100000 from h4)]; rfl
          go_enter Try.func11, Try.ntmps11
          go_wp2_with fail
          go_ret
          exact ⟨ret_bool fin.out.symm, ob⟩
      · have fin : Hid (nodeP (pdOf pm) (⟨kind, frm, tto, line, op, num, flt, text, nn, nm, nk, kd⟩ : PD) i = false) := by
          show _ = _
          unfold nodeP; rw [decide_eq_true (show 0 ≤ (⟨kind, frm, tto, line, op, num, flt, text, nn, nm, nk, kd⟩ : PD).frm from h1), decide_eq_true (show (⟨kind, frm, tto, line, op, num, flt, text, nn, nm, nk, kd⟩ : PD).frm ≤ (⟨kind, frm, tto, line, op, num, flt, text, nn, nm, nk, kd⟩ : PD).tto from h2), decide_eq_false (show ¬ 0 ≤ (⟨kind, frm, tto, line, op, num, flt, text, nn, nm, nk, kd⟩ : PD).line from h3)]; rfl
        go_enter Try.func11, Try.ntmps11
        go_wp2_with fail
        go_ret
        exact ⟨ret_bool fin.out.symm, ob⟩
    · have fin : Hid (nodeP (pdOf pm) (⟨kind, frm, tto, line, op, num, flt, text, nn, nm, nk, kd⟩ : PD) i = false) := by
        show _ = _
        unfold nodeP; rw [decide_eq_true (show 0 ≤ (⟨kind, frm, tto, line, op, num, flt, text, nn, nm, nk, kd⟩ : PD).frm from h1), decide_eq_false (show ¬ (⟨kind, frm, tto, line, op, num, flt, text, nn, nm, nk, kd⟩ : PD).frm ≤ (⟨kind, frm, tto, line, op, num, flt, text, nn, nm, nk, kd⟩ : PD).tto from h2)]; rfl
      go_enter Try.func11, Try.ntmps11
      go_wp2_with fail
      go_ret
      exact ⟨ret_bool fin.out.symm, ob⟩
  · have fin : Hid (nodeP (pdOf pm) (⟨kind, frm, tto, line, op, num, flt, text, nn, nm, nk, kd⟩ : PD) i = false) := by
      show _ = _
      unfold nodeP; rw [decide_eq_false (show ¬ 0 ≤ (⟨kind, frm, tto, line, op, num, flt, text, nn, nm, nk, kd⟩ : PD).frm from h1)]; rfl
    go_enter Try.func11, Try.ntmps11
    go_wp2_with fail
    go_ret
    exact ⟨ret_bool fin.out.symm, ob⟩
end Go.Proofs.Ytnokgdgikdgaeaa
