import Derived.Test.YtnokgdgikdgaeaaP11
import Derived.Test.YtnokgdgikdgaeaaP17
import Derived.Test.YtnokgdgikdgaeaaP18
import Derived.Test.YtnokgdgikdgaeaaP19
import Derived.Test.YtnokgdgikdgaeaaP20
namespace Go.Proofs.Ytnokgdgikdgaeaa
open Go.RowKit
attribute [local go_sem] run_store_float

set_option maxRecDepth 100000 in
set_option maxHeartbeats 2000000 in
theorem ex24_0 (w : World) (np : Nat) (pa : Option Addr) (pc : Nat) (frm tto line op num : Int) (flt : Nat) (text : ByteArray) (nn : Nat) (nm : Nat → ByteArray) (kd : Nat → Int) (na : Option Addr) (nc : Nat) (ka : Option Addr) (kc : Nat) :
    Calls Try.prog 23 #[.agg #[.slice pa np pc], .agg #[.int .i64 24, .int .i64 frm, .int .i64 tto, .int .i64 line, .int .i64 op, .int .i64 num, .float .f64 flt, .string text, .slice na nn nc, .slice ka 0 kc]] w fun e w' => e = .returned (.bool (bareP (⟨24, frm, tto, line, op, num, 0, text, nn, nm, 0, kd⟩ : PD) false false false false && fnum flt)) ∧ Onw w w' := by
  have T := Two.new w pa np pc 24 frm tto line op num flt text na nn nc ka 0 kc
  have ob := Two.start w pa np pc 24 frm tto line op num flt text na nn nc ka 0 kc
  go_enter Try.func23, Try.ntmps23
  go_wp2_with fail
  have O3 := Onw.alloc ((w.alloc (Obj.cells #[.slice pa np pc] 31)).alloc (Obj.cells #[.int .i64 24, .int .i64 frm, .int .i64 tto, .int .i64 line, .int .i64 op, .int .i64 num, .float .f64 flt, .string text, .slice na nn nc, .slice ka 0 kc] 41)) (Obj.cells #[.int .i64 24, .int .i64 frm, .int .i64 tto, .int .i64 line, .int .i64 op, .int .i64 num, .float .f64 0, .string text, .slice na nn nc, .slice ka 0 kc] 41)
  replace T := T.onw O3
  replace ob := ob.trans O3
  clear O3
  refine (l6bare_any ⟨⟨24, frm, tto, line, op, num, 0, text, nn, nm, 0, kd⟩, na, nc, ka, kc⟩ _ false false false false (by decide)).mono ?_
  rintro e w1 ⟨rfl, O1⟩
  replace T := T.onw O1
  replace ob := ob.trans O1
  clear O1
  obtain ⟨q0, hq0⟩ : ∃ q, bareP (⟨24, frm, tto, line, op, num, 0, text, nn, nm, 0, kd⟩ : PD) false false false false = q := ⟨_, rfl⟩
  rw [hq0]
  have x0 : Hid _ := hq0
  clear hq0
  obtain ⟨t0, c0, c1, c2, c3, c4, c5, c6, c7, c8, c9⟩ := T
  cases q0
  · go_wp2_with fail
    go_ret
    exact ⟨ret_bool (by rw [x0.out]; rfl), ob⟩
  · go_wp2_with fail
    go_ret
    exact ⟨ret_bool (by rw [x0.out]; rfl), ob⟩

set_option maxRecDepth 100000 in
set_option maxHeartbeats 2000000 in
theorem ex24_no (w : World) (np : Nat) (pa : Option Addr) (pc : Nat) (frm tto line op num : Int) (flt : Nat) (text : ByteArray) (nn : Nat) (nk : Nat) (na : Option Addr) (nc : Nat) (ka : Option Addr) (kc : Nat) (hne : nk ≠ 0) :
    Calls Try.prog 23 #[.agg #[.slice pa np pc], .agg #[.int .i64 24, .int .i64 frm, .int .i64 tto, .int .i64 line, .int .i64 op, .int .i64 num, .float .f64 flt, .string text, .slice na nn nc, .slice ka nk kc]] w fun e w' => e = .returned (.bool false) ∧ Onw w w' := by
  have ob := Two.start w pa np pc 24 frm tto line op num flt text na nn nc ka nk kc
  have O3 := Onw.alloc ((w.alloc (Obj.cells #[.slice pa np pc] 31)).alloc (Obj.cells #[.int .i64 24, .int .i64 frm, .int .i64 tto, .int .i64 line, .int .i64 op, .int .i64 num, .float .f64 flt, .string text, .slice na nn nc, .slice ka nk kc] 41)) (Obj.cells #[.int .i64 24, .int .i64 frm, .int .i64 tto, .int .i64 line, .int .i64 op, .int .i64 num, .float .f64 0, .string text, .slice na nn nc, .slice ka nk kc] 41)
  replace ob := ob.trans O3
  clear O3
  go_enter Try.func23, Try.ntmps23
  go_wp2_with fail
  go_ret
  exact ⟨ret_bool rfl, ob⟩

/-- Kinds of neither sort. -/
def noKind (k : Int) : Bool := !(exprP k) && !(decide (40 ≤ k) && decide (k ≤ 42))

set_option maxRecDepth 100000 in
set_option maxHeartbeats 2000000 in
theorem exNo (w : World) (np : Nat) (pa : Option Addr) (pc : Nat) (kind frm tto line op num : Int) (flt : Nat) (text : ByteArray) (nn : Nat) (nk : Nat) (na : Option Addr) (nc : Nat) (ka : Option Addr) (kc : Nat) (hno : noKind kind = true) :
    Calls Try.prog 23 #[.agg #[.slice pa np pc], .agg #[.int .i64 kind, .int .i64 frm, .int .i64 tto, .int .i64 line, .int .i64 op, .int .i64 num, .float .f64 flt, .string text, .slice na nn nc, .slice ka nk kc]] w fun e w' => e = .returned (.bool false) ∧ Onw w w' := by
  have ob := Two.start w pa np pc kind frm tto line op num flt text na nn nc ka nk kc
  have k20 : kind ≠ 20 := by rintro rfl; revert hno; decide
  have k21 : kind ≠ 21 := by rintro rfl; revert hno; decide
  have k22 : kind ≠ 22 := by rintro rfl; revert hno; decide
  have k23 : kind ≠ 23 := by rintro rfl; revert hno; decide
  have k24 : kind ≠ 24 := by rintro rfl; revert hno; decide
  have k25 : kind ≠ 25 := by rintro rfl; revert hno; decide
  have k26 : kind ≠ 26 := by rintro rfl; revert hno; decide
  have k27 : kind ≠ 27 := by rintro rfl; revert hno; decide
  have k28 : kind ≠ 28 := by rintro rfl; revert hno; decide
  have k29 : kind ≠ 29 := by rintro rfl; revert hno; decide
  have k30 : kind ≠ 30 := by rintro rfl; revert hno; decide
  have k31 : kind ≠ 31 := by rintro rfl; revert hno; decide
  have k32 : kind ≠ 32 := by rintro rfl; revert hno; decide
  have k33 : kind ≠ 33 := by rintro rfl; revert hno; decide
  have k34 : kind ≠ 34 := by rintro rfl; revert hno; decide
  have k35 : kind ≠ 35 := by rintro rfl; revert hno; decide
  have k36 : kind ≠ 36 := by rintro rfl; revert hno; decide
  have k37 : kind ≠ 37 := by rintro rfl; revert hno; decide
  have k40 : kind ≠ 40 := by rintro rfl; revert hno; decide
  have k41 : kind ≠ 41 := by rintro rfl; revert hno; decide
  have k42 : kind ≠ 42 := by rintro rfl; revert hno; decide
  clear hno
  go_enter Try.func23, Try.ntmps23
  go_wp2_with fail
  go_ret
  exact ⟨ret_bool rfl, ob⟩
end Go.Proofs.Ytnokgdgikdgaeaa

namespace Go.Proofs.Ytnokgdgikdgaeaa
open Go.RowKit

def expn20 (_pd : Nat → PD) (d : PD) : Bool := decide (d.nk = 0) && bareP d false false false false
def expn21 (_pd : Nat → PD) (d : PD) : Bool := decide (d.nk = 0) && bareP d false false false false
def expn22 (_pd : Nat → PD) (d : PD) : Bool := decide (d.nk = 0) && bareP d false false false false
def expn23 (_pd : Nat → PD) (d : PD) : Bool := decide (d.nk = 0) && bareP d false true false false
def expn24 (_pd : Nat → PD) (d : PD) : Bool := decide (d.nk = 0) && (bareP { d with flt := 0 } false false false false && fnum d.flt)
def expn25 (_pd : Nat → PD) (d : PD) : Bool := decide (d.nk = 0) && (decide (d.text.size ≤ 4000) && bareP d false false true false)
def expn26 (_pd : Nat → PD) (d : PD) : Bool := decide (d.nk = 0) && ((bareP d false false true false) && nameB d.text)
def expn27 (_pd : Nat → PD) (d : PD) : Bool := decide (d.nk = 0) && bareP d false false false false
def expn28 (pd : Nat → PD) (d : PD) : Bool := decide (d.nk = 2) && ((exprsP pd d 0 2) && bareP d false false false false)
def expn29 (pd : Nat → PD) (d : PD) : Bool := decide (d.nk = 2) && ((exprsP pd d 0 2) && bareP d false false false false)
def expn30 (pd : Nat → PD) (d : PD) : Bool := decide (d.nk = 1) && (decide (19 ≤ d.op) && (decide (d.op ≤ 22) && ((exprsP pd d 0 1) && bareP d true false false false)))
def expn31 (pd : Nat → PD) (d : PD) : Bool := decide (d.nk = 2) && (decide (1 ≤ d.op) && (decide (d.op ≤ 18) && ((exprsP pd d 0 2) && bareP d true false false false)))
def expn32 (pd : Nat → PD) (d : PD) : Bool := decide (d.nk = 2) && ((exprsP pd d 0 2) && ((!(kidP pd d 0 == 27)) && bareP d false false false false))
def expn33 (pd : Nat → PD) (d : PD) : Bool := decide (d.nk = 1) && ((exprsP pd d 0 1) && ((!(kidP pd d 0 == 27)) && ((bareP d false false true false) && nameB d.text)))
def expn34 (pd : Nat → PD) (d : PD) : Bool := decide (0 < d.nk) && ((exprsP pd d 0 d.nk) && ((!(kidP pd d 0 == 27)) && bareP d false false false false))
def expn35 (pd : Nat → PD) (d : PD) : Bool := allB (fun j => entryP (kidP pd d j)) 0 d.nk && bareP d false false false false
def expn36 (pd : Nat → PD) (d : PD) : Bool := decide (d.nk = 1) && ((d.op == 0 || d.op == 1) && ((kidP pd d 0 == 1) && ((bareP d true false false true) && namedP d 0 200)))
def expn37 (pd : Nat → PD) (d : PD) : Bool := decide (d.nk = 1) && ((kidP pd d 0 == 34 || kidP pd d 0 == 27) && bareP d false false false false)
def expn40 (pd : Nat → PD) (d : PD) : Bool := decide (d.nk = 1) && ((exprsP pd d 0 1) && bareP d false false false false)
def expn41 (pd : Nat → PD) (d : PD) : Bool := decide (d.nk = 2) && ((exprsP pd d 0 2) && bareP d false false false false)
def expn42 (pd : Nat → PD) (d : PD) : Bool := decide (d.nk = 1) && ((exprsP pd d 0 1) && ((bareP d false false true false) && nameB d.text))
def expnP (pd : Nat → PD) (d : PD) : Bool :=
  if d.kind = 20 then expn20 pd d else
  if d.kind = 21 then expn21 pd d else
  if d.kind = 22 then expn22 pd d else
  if d.kind = 23 then expn23 pd d else
  if d.kind = 24 then expn24 pd d else
  if d.kind = 25 then expn25 pd d else
  if d.kind = 26 then expn26 pd d else
  if d.kind = 27 then expn27 pd d else
  if d.kind = 28 then expn28 pd d else
  if d.kind = 29 then expn29 pd d else
  if d.kind = 30 then expn30 pd d else
  if d.kind = 31 then expn31 pd d else
  if d.kind = 32 then expn32 pd d else
  if d.kind = 33 then expn33 pd d else
  if d.kind = 34 then expn34 pd d else
  if d.kind = 35 then expn35 pd d else
  if d.kind = 36 then expn36 pd d else
  if d.kind = 37 then expn37 pd d else
  if d.kind = 40 then expn40 pd d else
  if d.kind = 41 then expn41 pd d else
  if d.kind = 42 then expn42 pd d else
  false

set_option maxRecDepth 100000 in
set_option maxHeartbeats 2000000 in
theorem l6expression_any (t : TM) (m : PM) (w : World) (hn : t.np ≤ 1048576) (hk : m.nk ≤ 1048576) (hnn : m.nn ≤ 1048576) (htx : m.text.size ≤ 1048576) (hr : ∀ j, j < m.nk → 0 ≤ m.kd j ∧ m.kd j < t.np) (hz : ∀ i, i < m.nn → (m.nm i).size ≤ 1048576) (ht : t.At w) (hm : m.At w) :
    Calls Try.prog 23 #[.agg #[.slice t.pa t.np t.pc], .agg #[.int .i64 m.kind, .int .i64 m.frm, .int .i64 m.tto, .int .i64 m.line, .int .i64 m.op, .int .i64 m.num, .float .f64 m.flt, .string m.text, .slice m.na m.nn m.nc, .slice m.ka m.nk m.kc]] w fun e w' => e = .returned (.bool (expnP (pdOf t.pm) m.toPD)) ∧ Onw w w' := by
  obtain ⟨np, pm, pa, pc⟩ := t
  obtain ⟨⟨kind, frm, tto, line, op, num, flt, text, nn, nm, nk, kd⟩, na, nc, ka, kc⟩ := m
  simp only at *
  have hall : kind = 20 ∨ kind = 21 ∨ kind = 22 ∨ kind = 23 ∨ kind = 24 ∨ kind = 25 ∨ kind = 26 ∨ kind = 27 ∨ kind = 28 ∨ kind = 29 ∨ kind = 30 ∨ kind = 31 ∨ kind = 32 ∨ kind = 33 ∨ kind = 34 ∨ kind = 35 ∨ kind = 36 ∨ kind = 37 ∨ kind = 40 ∨ kind = 41 ∨ kind = 42 ∨ noKind kind = true := by simp [noKind, exprP]; omega
  rcases hall with rfl | rfl | rfl | rfl | rfl | rfl | rfl | rfl | rfl | rfl | rfl | rfl | rfl | rfl | rfl | rfl | rfl | rfl | rfl | rfl | rfl | hno
  · by_cases h : nk = 0
    · subst h
      exact ex20_0 w np pm pa pc frm tto line op num flt text nn nm kd na nc ka kc  hn hk hnn htx hr hz ht hm
    · have h0 : expn20 (pdOf pm) (⟨20, frm, tto, line, op, num, flt, text, nn, nm, nk, kd⟩ : PD) = false := by unfold expn20; rw [decide_eq_false (show ¬ (⟨20, frm, tto, line, op, num, flt, text, nn, nm, nk, kd⟩ : PD).nk = 0 from h)]; rfl
      refine (ex20_no w np pm pa pc frm tto line op num flt text nn nm nk kd na nc ka kc h hn hk hnn htx hr hz ht hm).mono ?_
      rintro e w' ⟨rfl, o⟩
      exact ⟨congrArg (fun b => Ending.returned (.bool b)) h0.symm, o⟩
  · by_cases h : nk = 0
    · subst h
      exact ex21_0 w np pm pa pc frm tto line op num flt text nn nm kd na nc ka kc  hn hk hnn htx hr hz ht hm
    · have h0 : expn21 (pdOf pm) (⟨21, frm, tto, line, op, num, flt, text, nn, nm, nk, kd⟩ : PD) = false := by unfold expn21; rw [decide_eq_false (show ¬ (⟨21, frm, tto, line, op, num, flt, text, nn, nm, nk, kd⟩ : PD).nk = 0 from h)]; rfl
      refine (ex21_no w np pm pa pc frm tto line op num flt text nn nm nk kd na nc ka kc h hn hk hnn htx hr hz ht hm).mono ?_
      rintro e w' ⟨rfl, o⟩
      exact ⟨congrArg (fun b => Ending.returned (.bool b)) h0.symm, o⟩
  · by_cases h : nk = 0
    · subst h
      exact ex22_0 w np pm pa pc frm tto line op num flt text nn nm kd na nc ka kc  hn hk hnn htx hr hz ht hm
    · have h0 : expn22 (pdOf pm) (⟨22, frm, tto, line, op, num, flt, text, nn, nm, nk, kd⟩ : PD) = false := by unfold expn22; rw [decide_eq_false (show ¬ (⟨22, frm, tto, line, op, num, flt, text, nn, nm, nk, kd⟩ : PD).nk = 0 from h)]; rfl
      refine (ex22_no w np pm pa pc frm tto line op num flt text nn nm nk kd na nc ka kc h hn hk hnn htx hr hz ht hm).mono ?_
      rintro e w' ⟨rfl, o⟩
      exact ⟨congrArg (fun b => Ending.returned (.bool b)) h0.symm, o⟩
  · by_cases h : nk = 0
    · subst h
      exact ex23_0 w np pm pa pc frm tto line op num flt text nn nm kd na nc ka kc  hn hk hnn htx hr hz ht hm
    · have h0 : expn23 (pdOf pm) (⟨23, frm, tto, line, op, num, flt, text, nn, nm, nk, kd⟩ : PD) = false := by unfold expn23; rw [decide_eq_false (show ¬ (⟨23, frm, tto, line, op, num, flt, text, nn, nm, nk, kd⟩ : PD).nk = 0 from h)]; rfl
      refine (ex23_no w np pm pa pc frm tto line op num flt text nn nm nk kd na nc ka kc h hn hk hnn htx hr hz ht hm).mono ?_
      rintro e w' ⟨rfl, o⟩
      exact ⟨congrArg (fun b => Ending.returned (.bool b)) h0.symm, o⟩
  · by_cases h : nk = 0
    · subst h
      exact ex24_0 w np pa pc frm tto line op num flt text nn nm kd na nc ka kc
    · have h0 : expn24 (pdOf pm) (⟨24, frm, tto, line, op, num, flt, text, nn, nm, nk, kd⟩ : PD) = false := by unfold expn24; rw [decide_eq_false (show ¬ (⟨24, frm, tto, line, op, num, flt, text, nn, nm, nk, kd⟩ : PD).nk = 0 from h)]; rfl
      refine (ex24_no w np pa pc frm tto line op num flt text nn nk na nc ka kc h).mono ?_
      rintro e w' ⟨rfl, o⟩
      exact ⟨congrArg (fun b => Ending.returned (.bool b)) h0.symm, o⟩
  · by_cases h : nk = 0
    · subst h
      by_cases h2 : text.size ≤ 4000
      · have h0 : expn25 (pdOf pm) (⟨25, frm, tto, line, op, num, flt, text, nn, nm, 0, kd⟩ : PD) = bareP (⟨25, frm, tto, line, op, num, flt, text, nn, nm, 0, kd⟩ : PD) false false true false := by unfold expn25; rw [decide_eq_true (show (⟨25, frm, tto, line, op, num, flt, text, nn, nm, 0, kd⟩ : PD).text.size ≤ 4000 from h2)]; rfl
        refine (ex25_0 w np pm pa pc frm tto line op num flt text nn nm kd na nc ka kc h2 hn hk hnn htx hr hz ht hm).mono ?_
        rintro e w' ⟨rfl, o⟩
        exact ⟨congrArg (fun b => Ending.returned (.bool b)) h0.symm, o⟩
      · have h0 : expn25 (pdOf pm) (⟨25, frm, tto, line, op, num, flt, text, nn, nm, 0, kd⟩ : PD) = false := by unfold expn25; rw [decide_eq_false (show ¬ (⟨25, frm, tto, line, op, num, flt, text, nn, nm, 0, kd⟩ : PD).text.size ≤ 4000 from h2)]; rfl
        refine (ex25_long w np pm pa pc frm tto line op num flt text nn nm kd na nc ka kc (by omega) hn hk hnn htx hr hz ht hm).mono ?_
        rintro e w' ⟨rfl, o⟩
        exact ⟨congrArg (fun b => Ending.returned (.bool b)) h0.symm, o⟩
    · have h0 : expn25 (pdOf pm) (⟨25, frm, tto, line, op, num, flt, text, nn, nm, nk, kd⟩ : PD) = false := by unfold expn25; rw [decide_eq_false (show ¬ (⟨25, frm, tto, line, op, num, flt, text, nn, nm, nk, kd⟩ : PD).nk = 0 from h)]; rfl
      refine (ex25_no w np pm pa pc frm tto line op num flt text nn nm nk kd na nc ka kc h hn hk hnn htx hr hz ht hm).mono ?_
      rintro e w' ⟨rfl, o⟩
      exact ⟨congrArg (fun b => Ending.returned (.bool b)) h0.symm, o⟩
  · by_cases h : nk = 0
    · subst h
      exact ex26_0 w np pm pa pc frm tto line op num flt text nn nm kd na nc ka kc  hn hk hnn htx hr hz ht hm
    · have h0 : expn26 (pdOf pm) (⟨26, frm, tto, line, op, num, flt, text, nn, nm, nk, kd⟩ : PD) = false := by unfold expn26; rw [decide_eq_false (show ¬ (⟨26, frm, tto, line, op, num, flt, text, nn, nm, nk, kd⟩ : PD).nk = 0 from h)]; rfl
      refine (ex26_no w np pm pa pc frm tto line op num flt text nn nm nk kd na nc ka kc h hn hk hnn htx hr hz ht hm).mono ?_
      rintro e w' ⟨rfl, o⟩
      exact ⟨congrArg (fun b => Ending.returned (.bool b)) h0.symm, o⟩
  · by_cases h : nk = 0
    · subst h
      exact ex27_0 w np pm pa pc frm tto line op num flt text nn nm kd na nc ka kc  hn hk hnn htx hr hz ht hm
    · have h0 : expn27 (pdOf pm) (⟨27, frm, tto, line, op, num, flt, text, nn, nm, nk, kd⟩ : PD) = false := by unfold expn27; rw [decide_eq_false (show ¬ (⟨27, frm, tto, line, op, num, flt, text, nn, nm, nk, kd⟩ : PD).nk = 0 from h)]; rfl
      refine (ex27_no w np pm pa pc frm tto line op num flt text nn nm nk kd na nc ka kc h hn hk hnn htx hr hz ht hm).mono ?_
      rintro e w' ⟨rfl, o⟩
      exact ⟨congrArg (fun b => Ending.returned (.bool b)) h0.symm, o⟩
  · by_cases h : nk = 2
    · subst h
      exact ex28_2 w np pm pa pc frm tto line op num flt text nn nm kd na nc ka kc  hn hk hnn htx hr hz ht hm
    · have h0 : expn28 (pdOf pm) (⟨28, frm, tto, line, op, num, flt, text, nn, nm, nk, kd⟩ : PD) = false := by unfold expn28; rw [decide_eq_false (show ¬ (⟨28, frm, tto, line, op, num, flt, text, nn, nm, nk, kd⟩ : PD).nk = 2 from h)]; rfl
      refine (ex28_no w np pm pa pc frm tto line op num flt text nn nm nk kd na nc ka kc h hn hk hnn htx hr hz ht hm).mono ?_
      rintro e w' ⟨rfl, o⟩
      exact ⟨congrArg (fun b => Ending.returned (.bool b)) h0.symm, o⟩
  · by_cases h : nk = 2
    · subst h
      exact ex29_2 w np pm pa pc frm tto line op num flt text nn nm kd na nc ka kc  hn hk hnn htx hr hz ht hm
    · have h0 : expn29 (pdOf pm) (⟨29, frm, tto, line, op, num, flt, text, nn, nm, nk, kd⟩ : PD) = false := by unfold expn29; rw [decide_eq_false (show ¬ (⟨29, frm, tto, line, op, num, flt, text, nn, nm, nk, kd⟩ : PD).nk = 2 from h)]; rfl
      refine (ex29_no w np pm pa pc frm tto line op num flt text nn nm nk kd na nc ka kc h hn hk hnn htx hr hz ht hm).mono ?_
      rintro e w' ⟨rfl, o⟩
      exact ⟨congrArg (fun b => Ending.returned (.bool b)) h0.symm, o⟩
  · by_cases h : nk = 1
    · subst h
      by_cases h1 : 19 ≤ op
      · by_cases h2 : op ≤ 22
        · have h0 : expn30 (pdOf pm) (⟨30, frm, tto, line, op, num, flt, text, nn, nm, 1, kd⟩ : PD) = (exprsP (pdOf pm) (⟨30, frm, tto, line, op, num, flt, text, nn, nm, 1, kd⟩ : PD) 0 1 && bareP (⟨30, frm, tto, line, op, num, flt, text, nn, nm, 1, kd⟩ : PD) true false false false) := by unfold expn30; rw [decide_eq_true (show 19 ≤ (⟨30, frm, tto, line, op, num, flt, text, nn, nm, 1, kd⟩ : PD).op from h1), decide_eq_true (show (⟨30, frm, tto, line, op, num, flt, text, nn, nm, 1, kd⟩ : PD).op ≤ 22 from h2)]; rfl
          refine (ex30_1 w np pm pa pc frm tto line op num flt text nn nm kd na nc ka kc h1 h2 hn hk hnn htx hr hz ht hm).mono ?_
          rintro e w' ⟨rfl, o⟩
          exact ⟨congrArg (fun b => Ending.returned (.bool b)) h0.symm, o⟩
        · have h0 : expn30 (pdOf pm) (⟨30, frm, tto, line, op, num, flt, text, nn, nm, 1, kd⟩ : PD) = false := by unfold expn30; rw [decide_eq_false (show ¬ (⟨30, frm, tto, line, op, num, flt, text, nn, nm, 1, kd⟩ : PD).op ≤ 22 from h2)]; simp
          refine (ex30_hi w np pm pa pc frm tto line op num flt text nn nm kd na nc ka kc h1 (by omega) hn hk hnn htx hr hz ht hm).mono ?_
          rintro e w' ⟨rfl, o⟩
          exact ⟨congrArg (fun b => Ending.returned (.bool b)) h0.symm, o⟩
      · have h0 : expn30 (pdOf pm) (⟨30, frm, tto, line, op, num, flt, text, nn, nm, 1, kd⟩ : PD) = false := by unfold expn30; rw [decide_eq_false (show ¬ 19 ≤ (⟨30, frm, tto, line, op, num, flt, text, nn, nm, 1, kd⟩ : PD).op from h1)]; simp
        refine (ex30_lo w np pm pa pc frm tto line op num flt text nn nm kd na nc ka kc (by omega) hn hk hnn htx hr hz ht hm).mono ?_
        rintro e w' ⟨rfl, o⟩
        exact ⟨congrArg (fun b => Ending.returned (.bool b)) h0.symm, o⟩
    · have h0 : expn30 (pdOf pm) (⟨30, frm, tto, line, op, num, flt, text, nn, nm, nk, kd⟩ : PD) = false := by unfold expn30; rw [decide_eq_false (show ¬ (⟨30, frm, tto, line, op, num, flt, text, nn, nm, nk, kd⟩ : PD).nk = 1 from h)]; rfl
      refine (ex30_no w np pm pa pc frm tto line op num flt text nn nm nk kd na nc ka kc h hn hk hnn htx hr hz ht hm).mono ?_
      rintro e w' ⟨rfl, o⟩
      exact ⟨congrArg (fun b => Ending.returned (.bool b)) h0.symm, o⟩
  · by_cases h : nk = 2
    · subst h
      by_cases h1 : 1 ≤ op
      · by_cases h2 : op ≤ 18
        · have h0 : expn31 (pdOf pm) (⟨31, frm, tto, line, op, num, flt, text, nn, nm, 2, kd⟩ : PD) = (exprsP (pdOf pm) (⟨31, frm, tto, line, op, num, flt, text, nn, nm, 2, kd⟩ : PD) 0 2 && bareP (⟨31, frm, tto, line, op, num, flt, text, nn, nm, 2, kd⟩ : PD) true false false false) := by unfold expn31; rw [decide_eq_true (show 1 ≤ (⟨31, frm, tto, line, op, num, flt, text, nn, nm, 2, kd⟩ : PD).op from h1), decide_eq_true (show (⟨31, frm, tto, line, op, num, flt, text, nn, nm, 2, kd⟩ : PD).op ≤ 18 from h2)]; rfl
          refine (ex31_2 w np pm pa pc frm tto line op num flt text nn nm kd na nc ka kc h1 h2 hn hk hnn htx hr hz ht hm).mono ?_
          rintro e w' ⟨rfl, o⟩
          exact ⟨congrArg (fun b => Ending.returned (.bool b)) h0.symm, o⟩
        · have h0 : expn31 (pdOf pm) (⟨31, frm, tto, line, op, num, flt, text, nn, nm, 2, kd⟩ : PD) = false := by unfold expn31; rw [decide_eq_false (show ¬ (⟨31, frm, tto, line, op, num, flt, text, nn, nm, 2, kd⟩ : PD).op ≤ 18 from h2)]; simp
          refine (ex31_hi w np pm pa pc frm tto line op num flt text nn nm kd na nc ka kc h1 (by omega) hn hk hnn htx hr hz ht hm).mono ?_
          rintro e w' ⟨rfl, o⟩
          exact ⟨congrArg (fun b => Ending.returned (.bool b)) h0.symm, o⟩
      · have h0 : expn31 (pdOf pm) (⟨31, frm, tto, line, op, num, flt, text, nn, nm, 2, kd⟩ : PD) = false := by unfold expn31; rw [decide_eq_false (show ¬ 1 ≤ (⟨31, frm, tto, line, op, num, flt, text, nn, nm, 2, kd⟩ : PD).op from h1)]; simp
        refine (ex31_lo w np pm pa pc frm tto line op num flt text nn nm kd na nc ka kc (by omega) hn hk hnn htx hr hz ht hm).mono ?_
        rintro e w' ⟨rfl, o⟩
        exact ⟨congrArg (fun b => Ending.returned (.bool b)) h0.symm, o⟩
    · have h0 : expn31 (pdOf pm) (⟨31, frm, tto, line, op, num, flt, text, nn, nm, nk, kd⟩ : PD) = false := by unfold expn31; rw [decide_eq_false (show ¬ (⟨31, frm, tto, line, op, num, flt, text, nn, nm, nk, kd⟩ : PD).nk = 2 from h)]; rfl
      refine (ex31_no w np pm pa pc frm tto line op num flt text nn nm nk kd na nc ka kc h hn hk hnn htx hr hz ht hm).mono ?_
      rintro e w' ⟨rfl, o⟩
      exact ⟨congrArg (fun b => Ending.returned (.bool b)) h0.symm, o⟩
  · by_cases h : nk = 2
    · subst h
      exact ex32_2 w np pm pa pc frm tto line op num flt text nn nm kd na nc ka kc  hn hk hnn htx hr hz ht hm
    · have h0 : expn32 (pdOf pm) (⟨32, frm, tto, line, op, num, flt, text, nn, nm, nk, kd⟩ : PD) = false := by unfold expn32; rw [decide_eq_false (show ¬ (⟨32, frm, tto, line, op, num, flt, text, nn, nm, nk, kd⟩ : PD).nk = 2 from h)]; rfl
      refine (ex32_no w np pm pa pc frm tto line op num flt text nn nm nk kd na nc ka kc h hn hk hnn htx hr hz ht hm).mono ?_
      rintro e w' ⟨rfl, o⟩
      exact ⟨congrArg (fun b => Ending.returned (.bool b)) h0.symm, o⟩
  · by_cases h : nk = 1
    · subst h
      exact ex33_1 w np pm pa pc frm tto line op num flt text nn nm kd na nc ka kc  hn hk hnn htx hr hz ht hm
    · have h0 : expn33 (pdOf pm) (⟨33, frm, tto, line, op, num, flt, text, nn, nm, nk, kd⟩ : PD) = false := by unfold expn33; rw [decide_eq_false (show ¬ (⟨33, frm, tto, line, op, num, flt, text, nn, nm, nk, kd⟩ : PD).nk = 1 from h)]; rfl
      refine (ex33_no w np pm pa pc frm tto line op num flt text nn nm nk kd na nc ka kc h hn hk hnn htx hr hz ht hm).mono ?_
      rintro e w' ⟨rfl, o⟩
      exact ⟨congrArg (fun b => Ending.returned (.bool b)) h0.symm, o⟩
  · by_cases h : nk = 0
    · subst h; exact ex34_0 w np pm pa pc frm tto line op num flt text nn nm kd na nc ka kc  hn hk hnn htx hr hz ht hm
    · have h0 : expn34 (pdOf pm) (⟨34, frm, tto, line, op, num, flt, text, nn, nm, nk, kd⟩ : PD) = (exprsP (pdOf pm) (⟨34, frm, tto, line, op, num, flt, text, nn, nm, nk, kd⟩ : PD) 0 nk && ((!(kidP (pdOf pm) (⟨34, frm, tto, line, op, num, flt, text, nn, nm, nk, kd⟩ : PD) 0 == 27)) && bareP (⟨34, frm, tto, line, op, num, flt, text, nn, nm, nk, kd⟩ : PD) false false false false)) := by unfold expn34; rw [decide_eq_true (show 0 < (⟨34, frm, tto, line, op, num, flt, text, nn, nm, nk, kd⟩ : PD).nk from by show 0 < nk; omega)]; rfl
      refine (ex34_nk w np pm pa pc frm tto line op num flt text nn nm nk kd na nc ka kc (by omega) hn hk hnn htx hr hz ht hm).mono ?_
      rintro e w' ⟨rfl, o⟩
      exact ⟨congrArg (fun b => Ending.returned (.bool b)) h0.symm, o⟩
  · exact ex35_nk w np pm pa pc frm tto line op num flt text nn nm nk kd na nc ka kc hn hk hr ht hm
  · by_cases h : nk = 1
    · subst h
      by_cases h1 : op = 0
      · subst h1; exact ex36_a w np pm pa pc frm tto line num flt text nn nm kd na nc ka kc  hn hk hnn htx hr hz ht hm
      by_cases h2 : op = 1
      · subst h2; exact ex36_b w np pm pa pc frm tto line num flt text nn nm kd na nc ka kc  hn hk hnn htx hr hz ht hm
      have h0 : expn36 (pdOf pm) (⟨36, frm, tto, line, op, num, flt, text, nn, nm, 1, kd⟩ : PD) = false := by unfold expn36; rw [show ((⟨36, frm, tto, line, op, num, flt, text, nn, nm, 1, kd⟩ : PD).op == 0) = false from beq_false_of_ne h1, show ((⟨36, frm, tto, line, op, num, flt, text, nn, nm, 1, kd⟩ : PD).op == 1) = false from beq_false_of_ne h2]; simp
      refine (ex36_c w np pm pa pc frm tto line op num flt text nn nm kd na nc ka kc h1 h2 hn hk hnn htx hr hz ht hm).mono ?_
      rintro e w' ⟨rfl, o⟩
      exact ⟨congrArg (fun b => Ending.returned (.bool b)) h0.symm, o⟩
    · have h0 : expn36 (pdOf pm) (⟨36, frm, tto, line, op, num, flt, text, nn, nm, nk, kd⟩ : PD) = false := by unfold expn36; rw [decide_eq_false (show ¬ (⟨36, frm, tto, line, op, num, flt, text, nn, nm, nk, kd⟩ : PD).nk = 1 from h)]; rfl
      refine (ex36_no w np pm pa pc frm tto line op num flt text nn nm nk kd na nc ka kc h hn hk hnn htx hr hz ht hm).mono ?_
      rintro e w' ⟨rfl, o⟩
      exact ⟨congrArg (fun b => Ending.returned (.bool b)) h0.symm, o⟩
  · by_cases h : nk = 1
    · subst h
      obtain ⟨q, hq⟩ : ∃ q, kidP (pdOf pm) (⟨37, frm, tto, line, op, num, flt, text, nn, nm, 1, kd⟩ : PD) 0 = q := ⟨_, rfl⟩
      have h0 : expn37 (pdOf pm) (⟨37, frm, tto, line, op, num, flt, text, nn, nm, 1, kd⟩ : PD) = ((q == 34 || q == 27) && bareP (⟨37, frm, tto, line, op, num, flt, text, nn, nm, 1, kd⟩ : PD) false false false false) := by unfold expn37; rw [hq]; rfl
      by_cases q1 : q = 34
      · refine (ex37_a w np pm pa pc frm tto line op num flt text nn nm kd na nc ka kc (hq.trans q1) hn hk hnn htx hr hz ht hm).mono ?_
        rintro e w' ⟨rfl, o⟩
        exact ⟨congrArg (fun b => Ending.returned (.bool b)) (h0.trans (by rw [q1]; simp)).symm, o⟩
      by_cases q7 : q = 27
      · refine (ex37_b w np pm pa pc frm tto line op num flt text nn nm kd na nc ka kc (hq.trans q7) hn hk hnn htx hr hz ht hm).mono ?_
        rintro e w' ⟨rfl, o⟩
        exact ⟨congrArg (fun b => Ending.returned (.bool b)) (h0.trans (by rw [q7]; simp)).symm, o⟩
      refine (ex37_c w np pm pa pc frm tto line op num flt text nn nm kd na nc ka kc q hq q1 q7 hn hk hnn htx hr hz ht hm).mono ?_
      rintro e w' ⟨rfl, o⟩
      exact ⟨congrArg (fun b => Ending.returned (.bool b)) (h0.trans (by rw [beq_false_of_ne q1, beq_false_of_ne q7]; rfl)).symm, o⟩
    · have h0 : expn37 (pdOf pm) (⟨37, frm, tto, line, op, num, flt, text, nn, nm, nk, kd⟩ : PD) = false := by unfold expn37; rw [decide_eq_false (show ¬ (⟨37, frm, tto, line, op, num, flt, text, nn, nm, nk, kd⟩ : PD).nk = 1 from h)]; rfl
      refine (ex37_no w np pm pa pc frm tto line op num flt text nn nm nk kd na nc ka kc h hn hk hnn htx hr hz ht hm).mono ?_
      rintro e w' ⟨rfl, o⟩
      exact ⟨congrArg (fun b => Ending.returned (.bool b)) h0.symm, o⟩
  · by_cases h : nk = 1
    · subst h
      exact ex40_1 w np pm pa pc frm tto line op num flt text nn nm kd na nc ka kc  hn hk hnn htx hr hz ht hm
    · have h0 : expn40 (pdOf pm) (⟨40, frm, tto, line, op, num, flt, text, nn, nm, nk, kd⟩ : PD) = false := by unfold expn40; rw [decide_eq_false (show ¬ (⟨40, frm, tto, line, op, num, flt, text, nn, nm, nk, kd⟩ : PD).nk = 1 from h)]; rfl
      refine (ex40_no w np pm pa pc frm tto line op num flt text nn nm nk kd na nc ka kc h hn hk hnn htx hr hz ht hm).mono ?_
      rintro e w' ⟨rfl, o⟩
      exact ⟨congrArg (fun b => Ending.returned (.bool b)) h0.symm, o⟩
  · by_cases h : nk = 2
    · subst h
      exact ex41_2 w np pm pa pc frm tto line op num flt text nn nm kd na nc ka kc  hn hk hnn htx hr hz ht hm
    · have h0 : expn41 (pdOf pm) (⟨41, frm, tto, line, op, num, flt, text, nn, nm, nk, kd⟩ : PD) = false := by unfold expn41; rw [decide_eq_false (show ¬ (⟨41, frm, tto, line, op, num, flt, text, nn, nm, nk, kd⟩ : PD).nk = 2 from h)]; rfl
      refine (ex41_no w np pm pa pc frm tto line op num flt text nn nm nk kd na nc ka kc h hn hk hnn htx hr hz ht hm).mono ?_
      rintro e w' ⟨rfl, o⟩
      exact ⟨congrArg (fun b => Ending.returned (.bool b)) h0.symm, o⟩
  · by_cases h : nk = 1
    · subst h
      exact ex42_1 w np pm pa pc frm tto line op num flt text nn nm kd na nc ka kc  hn hk hnn htx hr hz ht hm
    · have h0 : expn42 (pdOf pm) (⟨42, frm, tto, line, op, num, flt, text, nn, nm, nk, kd⟩ : PD) = false := by unfold expn42; rw [decide_eq_false (show ¬ (⟨42, frm, tto, line, op, num, flt, text, nn, nm, nk, kd⟩ : PD).nk = 1 from h)]; rfl
      refine (ex42_no w np pm pa pc frm tto line op num flt text nn nm nk kd na nc ka kc h hn hk hnn htx hr hz ht hm).mono ?_
      rintro e w' ⟨rfl, o⟩
      exact ⟨congrArg (fun b => Ending.returned (.bool b)) h0.symm, o⟩
  · have h0 : expnP (pdOf pm) (⟨kind, frm, tto, line, op, num, flt, text, nn, nm, nk, kd⟩ : PD) = false := by
      have k20 : ¬ kind = 20 := by rintro rfl; revert hno; decide
      have k21 : ¬ kind = 21 := by rintro rfl; revert hno; decide
      have k22 : ¬ kind = 22 := by rintro rfl; revert hno; decide
      have k23 : ¬ kind = 23 := by rintro rfl; revert hno; decide
      have k24 : ¬ kind = 24 := by rintro rfl; revert hno; decide
      have k25 : ¬ kind = 25 := by rintro rfl; revert hno; decide
      have k26 : ¬ kind = 26 := by rintro rfl; revert hno; decide
      have k27 : ¬ kind = 27 := by rintro rfl; revert hno; decide
      have k28 : ¬ kind = 28 := by rintro rfl; revert hno; decide
      have k29 : ¬ kind = 29 := by rintro rfl; revert hno; decide
      have k30 : ¬ kind = 30 := by rintro rfl; revert hno; decide
      have k31 : ¬ kind = 31 := by rintro rfl; revert hno; decide
      have k32 : ¬ kind = 32 := by rintro rfl; revert hno; decide
      have k33 : ¬ kind = 33 := by rintro rfl; revert hno; decide
      have k34 : ¬ kind = 34 := by rintro rfl; revert hno; decide
      have k35 : ¬ kind = 35 := by rintro rfl; revert hno; decide
      have k36 : ¬ kind = 36 := by rintro rfl; revert hno; decide
      have k37 : ¬ kind = 37 := by rintro rfl; revert hno; decide
      have k40 : ¬ kind = 40 := by rintro rfl; revert hno; decide
      have k41 : ¬ kind = 41 := by rintro rfl; revert hno; decide
      have k42 : ¬ kind = 42 := by rintro rfl; revert hno; decide
      unfold expnP; simp only [k20, k21, k22, k23, k24, k25, k26, k27, k28, k29, k30, k31, k32, k33, k34, k35, k36, k37, k40, k41, k42, if_false]
    refine (exNo w np pa pc kind frm tto line op num flt text nn nk na nc ka kc hno).mono ?_
    rintro e w' ⟨rfl, o⟩
    exact ⟨congrArg (fun b => Ending.returned (.bool b)) h0.symm, o⟩
end Go.Proofs.Ytnokgdgikdgaeaa
