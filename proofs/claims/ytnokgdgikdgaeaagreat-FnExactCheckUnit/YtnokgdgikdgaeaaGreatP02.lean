import Derived.Test.YtnokgdgikdgaeaaGreatP01
import Derived.Test.YtnokgdgikdgaeaaGreatP00
import Derived.Deep.QuietTactic
import Derived.BigQuiet
import Derived.BigRegion
import Derived.Deep.RegionWith
import Derived.Deep.RegionHeld3
import Derived.Deep.DeepCutAuto
namespace Go.Proofs.YtnokgdgikdgaeaaGreat
open Go.RowKit

/-- A fault: its code, fn and node. -/
structure Flt where
  code : Int
  fn : Int
  node : Int

/-- The first place from i on, of m, of which p says true. -/
def findN (p : Nat → Bool) (i : Nat) : Nat → Option Nat
  | 0 => none
  | m + 1 => if p i then some i else findN p (i + 1) m
/-- The first fn from f on, of m, and its place. -/
def findF (q : Nat → Option Nat) (f : Nat) : Nat → Option (Nat × Nat)
  | 0 => none
  | m + 1 => match q f with
    | some n => some (f, n)
    | none => findF q (f + 1) m
def fltOf (code : Int) : Option (Nat × Nat) → Option Flt
  | none => none
  | some (f, n) => some ⟨code, f, n⟩

def fval : Option Flt → Value
  | none => .agg #[.int .i64 0, .int .i64 0, .int .i64 0]
  | some x => .agg #[.int .i64 x.code, .int .i64 x.fn, .int .i64 x.node]

def headsBad (u : UD) : Option (Nat × Nat) := findF (fun f => if headB (u.fn f) f then none else some 0) 0 u.nf
def shapesBad (u : UD) : Option (Nat × Nat) := findF (fun f => findN (fun n => !shapeB (u.fn f).nd n) 0 (u.fn f).nn) 0 u.nf
def sizeBad (u : UD) : Bool := (u.nf : Int) == 0 || decide ((300 : Int) < u.nf) || decide (3000 < ((sumTo (fun i => (u.fn i).nn) u.nf : Nat) : Int))

def firstB (u : UD) : Option Flt :=
  if sizeBad u then some ⟨1, 0, 0⟩ else
  match fltOf 2 (headsBad u) with
  | some x => some x
  | none => fltOf 3 (shapesBad u)

theorem sumTo_mono (f : Nat → Nat) : ∀ (k n : Nat), k ≤ n → sumTo f k ≤ sumTo f n
  | k, 0, h => by have : k = 0 := by omega
                  subst this; exact Nat.le_refl _
  | k, n + 1, h => by
    by_cases e : k = n + 1
    · subst e; exact Nat.le_refl _
    · have := sumTo_mono f k n (by omega)
      simp only [sumTo]; omega
theorem findF_step (q : Nat → Option Nat) (f m : Nat) : findF q f (m + 1) = match q f with | some n => some (f, n) | none => findF q (f + 1) m := rfl
theorem findN_step (p : Nat → Bool) (i m : Nat) : findN p i (m + 1) = if p i then some i else findN p (i + 1) m := rfl
end Go.Proofs.YtnokgdgikdgaeaaGreat

namespace Go.Proofs.YtnokgdgikdgaeaaGreat
open Go.RowKit

def bad4 (d : FD) (n : Nat) : Bool :=
  if (n : Int) == (d.nn : Int) - 1 then (parE d.nd d.nn n != -1) || ((d.nd n).kind != 1) else decide (parE d.nd d.nn n < 0)
def bad5 (d : FD) (n : Nat) : Bool := decide (100 < depE d.nd d.nn n)
def secondB (u : UD) : Option Flt :=
  match fltOf 4 (findF (fun f => findN (bad4 (u.fn f)) 0 (u.fn f).nn) 0 u.nf) with
  | some x => some x
  | none => fltOf 5 (findF (fun f => findN (bad5 (u.fn f)) 0 (u.fn f).nn) 0 u.nf)

/-- What codes 1 to 3 leave. -/
structure Ok3 (d : FD) : Prop where
  pos : 0 < d.nn
  kids : ∀ i, i < d.nn → ∀ j, j < (d.nd i).nk → 0 ≤ (d.nd i).kd j ∧ (d.nd i).kd j < i
end Go.Proofs.YtnokgdgikdgaeaaGreat

namespace Go.Proofs.YtnokgdgikdgaeaaGreat
open Go.RowKit

def seen0 (params : Int) : Nat → Bool := fun v => decide ((v : Int) < params)
def find6 (u : UD) (d : FD) (par : Nat → Int) (seen : Nat → Bool) (n : Nat) : Nat → Option Nat
  | 0 => none
  | m + 1 => if (refsB u d par n seen).1 then find6 u d par (refsB u d par n seen).2 (n + 1) m else some n
def bad6 (u : UD) (f : Nat) : Option Nat := find6 u (u.fn f) (parE (u.fn f).nd (u.fn f).nn) (seen0 (u.fn f).params) 0 (u.fn f).nn
def jumpK (d : ND) : Bool := d.kind == 9 || d.kind == 10
def bad7 (d : FD) (n : Nat) : Bool := jumpK (d.nd n) && !loopUp d.nd (parE d.nd d.nn) d.nn n

def make8 (u : UD) (f : Nat) (par : Nat → Int) (made : Nat → Bool) (n : Nat) : Nat → Option Nat × (Nat → Bool)
  | 0 => (none, made)
  | m + 1 =>
    let d := u.fn f
    if (d.nd n).kind = 37 ∧ d.rest = false then (some n, made)
    else if (d.nd n).kind ≠ 36 then make8 u f par made (n + 1) m
    else if (d.nd n).rf 0 ≤ f ∨ made ((d.nd n).rf 0).toNat = true ∨ upsB d par n (u.fn ((d.nd n).rf 0).toNat) = false then (some n, made)
    else make8 u f par (fun k => if k = ((d.nd n).rf 0).toNat then true else made k) (n + 1) m
def find8 (u : UD) (made : Nat → Bool) (f : Nat) : Nat → Option (Nat × Nat) × (Nat → Bool)
  | 0 => (none, made)
  | m + 1 => match make8 u f (parE (u.fn f).nd (u.fn f).nn) made 0 (u.fn f).nn with
    | (some n, md) => (some (f, n), md)
    | (none, md) => find8 u md (f + 1) m

def thirdB (u : UD) : Option Flt :=
  match fltOf 6 (findF (bad6 u) 0 u.nf) with
  | some x => some x
  | none =>
    match fltOf 7 (findF (fun f => findN (bad7 (u.fn f)) 0 (u.fn f).nn) 0 u.nf) with
    | some x => some x
    | none =>
      match find8 u (fun _ => false) 0 u.nf with
      | (some (f, n), _) => some ⟨8, f, n⟩
      | (none, md) => match findN (fun f => !md f) 1 (u.nf - 1) with
        | some f => some ⟨9, f, 0⟩
        | none => none

/-- What codes 1 to 3 leave, for codes 6 to 9. -/
structure Ok6 (d : FD) : Prop where
  ok3 : Ok3 d
  par0 : 0 ≤ d.params
  par1 : d.params ≤ d.nv
  one : ∀ n, n < d.nn → (d.nd n).kind = 26 ∨ (d.nd n).kind = 27 ∨ (d.nd n).kind = 36 → 0 < (d.nd n).nr
  lps : ∀ n, n < d.nn → (d.nd n).kind = 6 ∨ (d.nd n).kind = 7 ∨ (d.nd n).kind = 8 → 0 < (d.nd n).nk

theorem third_7 {u : UD} {x : Flt} (h6 : fltOf 6 (findF (bad6 u) 0 u.nf) = none) (h7 : fltOf 7 (findF (fun f => findN (bad7 (u.fn f)) 0 (u.fn f).nn) 0 u.nf) = some x) : thirdB u = some x := by
  unfold thirdB; rw [h6]; simp only; rw [h7]
theorem third_8 {u : UD} {f n : Nat} {md : Nat → Bool} (h6 : fltOf 6 (findF (bad6 u) 0 u.nf) = none) (h7 : fltOf 7 (findF (fun f => findN (bad7 (u.fn f)) 0 (u.fn f).nn) 0 u.nf) = none) (h8 : find8 u (fun _ => false) 0 u.nf = (some (f, n), md)) : thirdB u = some ⟨8, f, n⟩ := by
  unfold thirdB; rw [h6]; simp only; rw [h7]; simp only; rw [h8]
theorem third_9 {u : UD} {md : Nat → Bool} (h6 : fltOf 6 (findF (bad6 u) 0 u.nf) = none) (h7 : fltOf 7 (findF (fun f => findN (bad7 (u.fn f)) 0 (u.fn f).nn) 0 u.nf) = none) (h8 : find8 u (fun _ => false) 0 u.nf = (none, md)) : thirdB u = (match findN (fun f => !md f) 1 (u.nf - 1) with | some f => some ⟨9, f, 0⟩ | none => none) := by
  unfold thirdB; rw [h6]; simp only; rw [h7]; simp only; rw [h8]

theorem findF_none {q : Nat → Option Nat} : ∀ {m f : Nat}, findF q f m = none → ∀ j, f ≤ j → j < f + m → q j = none
  | 0, f, _, j, h1, h2 => by omega
  | m + 1, f, h, j, h1, h2 => by
    rw [findF] at h
    cases hq : q f with
    | some n => rw [hq] at h; cases h
    | none =>
      rw [hq] at h
      by_cases e : f = j
      · subst e; exact hq
      · exact findF_none h j (by omega) (by omega)
theorem findN_none {p : Nat → Bool} : ∀ {m i : Nat}, findN p i m = none → ∀ j, i ≤ j → j < i + m → p j = false
  | 0, i, _, j, h1, h2 => by omega
  | m + 1, i, h, j, h1, h2 => by
    rw [findN] at h
    cases hp : p i with
    | true => rw [hp] at h; cases h
    | false =>
      rw [hp] at h
      by_cases e : i = j
      · subst e; exact hp
      · exact findN_none h j (by omega) (by omega)
theorem fltOf_none {c : Int} {o : Option (Nat × Nat)} (h : fltOf c o = none) : o = none := by
  cases o with
  | none => rfl
  | some x => cases h
theorem find6_none {u : UD} {d : FD} {par : Nat → Int} : ∀ {m n : Nat} {seen : Nat → Bool}, find6 u d par seen n m = none → ∀ j, n ≤ j → j < n + m → ∃ sn, (refsB u d par j sn).1 = true
  | 0, n, _, _, j, h1, h2 => by omega
  | m + 1, n, seen, h, j, h1, h2 => by
    rw [find6] at h
    by_cases hr : (refsB u d par n seen).1 = true
    · rw [if_pos hr] at h
      by_cases e : n = j
      · subst e; exact ⟨seen, hr⟩
      · exact find6_none h j (by omega) (by omega)
    · rw [if_neg hr] at h; cases h
/-- Code 6 has found nothing: a NFn names a fn. -/
theorem six_fn {u : UD} (h6 : fltOf 6 (findF (bad6 u) 0 u.nf) = none) {f n : Nat} (hf : f < u.nf) (hn : n < (u.fn f).nn) (hk : ((u.fn f).nd n).kind = 36) :
    0 ≤ ((u.fn f).nd n).rf 0 ∧ ((u.fn f).nd n).rf 0 < u.nf := by
  have h := findF_none (fltOf_none h6) f (Nat.zero_le _) (by omega)
  obtain ⟨sn, hs⟩ := find6_none (show find6 _ _ _ _ _ _ = none from h) n (Nat.zero_le _) (by omega)
  have e : refsB u (u.fn f) (parE (u.fn f).nd (u.fn f).nn) n sn = (decide (0 ≤ ((u.fn f).nd n).rf 0) && decide (((u.fn f).nd n).rf 0 < u.nf), sn) := by
    unfold refsB
    simp only
    rw [if_neg (by omega), if_pos hk]
  rw [e] at hs
  simpa using hs
end Go.Proofs.YtnokgdgikdgaeaaGreat

namespace Go.Proofs.YtnokgdgikdgaeaaGreat
open Go.RowKit

theorem first_none {u : UD} (h : firstB u = none) : sizeBad u = false ∧ headsBad u = none ∧ shapesBad u = none := by
  unfold firstB at h
  cases hs : sizeBad u with
  | true => rw [hs] at h; cases h
  | false =>
    rw [hs] at h
    simp only [Bool.false_eq_true, if_false] at h
    cases hh : headsBad u with
    | some x => rw [hh] at h; cases h
    | none =>
      rw [hh] at h
      exact ⟨rfl, rfl, fltOf_none h⟩

theorem head_ok {u : UD} (h : headsBad u = none) {f : Nat} (hf : f < u.nf) : headB (u.fn f) f = true := by
  have := findF_none h f (Nat.zero_le _) (by omega)
  by_cases e : headB (u.fn f) f = true
  · exact e
  · simp [e] at this

theorem shape_ok {u : UD} (h : shapesBad u = none) {f n : Nat} (hf : f < u.nf) (hn : n < (u.fn f).nn) : shapeB (u.fn f).nd n = true := by
  have := findN_none (findF_none h f (Nat.zero_le _) (by omega)) n (Nat.zero_le _) (by omega)
  simpa using this

theorem bare_nr {d : ND} {a b c e : Bool} {r : Int} (h : bareB d a b c e r = true) : (d.nr : Int) = r := by
  simp only [bareB, Bool.and_eq_true] at h
  simpa using h.2

theorem shape_kids {nd : Nat → ND} {n : Nat} (h : shapeB nd n = true) : ∀ j, j < (nd n).nk → 0 ≤ (nd n).kd j ∧ (nd n).kd j < n := by
  simp only [shapeB, Bool.and_eq_true] at h
  intro j hj
  have := (allB_iff _ _ _).1 h.1.2 j (Nat.zero_le _) (by omega)
  simpa [kidsB] using this

theorem shape_expr {nd : Nat → ND} {n : Nat} (h : shapeB nd n = true) (hs : statB (nd n).kind = false) : (nd n).line = 0 ∧ exprnB nd n = true := by
  simp only [shapeB, Bool.and_eq_true] at h
  have := h.2
  rw [hs] at this
  simpa using this
theorem shape_stmt {nd : Nat → ND} {n : Nat} (h : shapeB nd n = true) (hs : statB (nd n).kind = true) : 1 ≤ (nd n).line ∧ (nd n).line ≤ 100000 ∧ stmtB nd n = true := by
  simp only [shapeB, Bool.and_eq_true] at h
  have := h.2
  rw [hs] at this
  simp only [if_true, Bool.and_eq_true, decide_eq_true_eq] at this
  exact ⟨this.1.1, this.1.2, this.2⟩

theorem one_ref {nd : Nat → ND} {n : Nat} (h : shapeB nd n = true) (hk : (nd n).kind = 26 ∨ (nd n).kind = 27 ∨ (nd n).kind = 36) : (nd n).nr = 1 := by
  have hs : statB (nd n).kind = false := by rcases hk with e | e | e <;> rw [e] <;> decide
  have he := (shape_expr h hs).2
  unfold exprnB at he
  rcases hk with e | e | e <;> simp [e] at he <;> have := bare_nr he.2 <;> omega

theorem loop_kids {nd : Nat → ND} {n : Nat} (h : shapeB nd n = true) (hk : (nd n).kind = 6 ∨ (nd n).kind = 7 ∨ (nd n).kind = 8) : 0 < (nd n).nk := by
  have hs : statB (nd n).kind = true := by rcases hk with e | e | e <;> rw [e] <;> decide
  have he := (shape_stmt h hs).2.2
  unfold stmtB at he
  rcases hk with e | e | e <;> simp [e] at he <;> omega

theorem ok6_of_first {u : UD} (h : firstB u = none) {f : Nat} (hf : f < u.nf) : Ok6 (u.fn f) := by
  obtain ⟨_, h2, h3⟩ := first_none h
  have hh := head_ok h2 hf
  simp only [headB, headA, Bool.and_eq_true, decide_eq_true_eq] at hh
  exact ⟨⟨hh.1.1.1.1.1.1, fun i hi => shape_kids (shape_ok h3 hf hi)⟩, hh.1.1.1.2, hh.1.1.2, fun n hn hk => by have := one_ref (shape_ok h3 hf hn) hk; omega, fun n hn hk => loop_kids (shape_ok h3 hf hn) hk⟩

theorem fltOf_code {c : Int} {o : Option (Nat × Nat)} {x : Flt} (h : fltOf c o = some x) : x.code = c := by
  cases o with
  | none => cases h
  | some y => obtain ⟨f, n⟩ := y; cases h; rfl
theorem first_code {u : UD} {x : Flt} (h : firstB u = some x) : x.code ≠ 0 := by
  unfold firstB at h
  split at h
  · cases h; decide
  · split at h
    · cases h; rename_i h2; rw [fltOf_code h2]; decide
    · rw [fltOf_code h]; decide
theorem second_code {u : UD} {x : Flt} (h : secondB u = some x) : x.code ≠ 0 := by
  unfold secondB at h
  split at h
  · cases h; rename_i h2; rw [fltOf_code h2]; decide
  · rw [fltOf_code h]; decide

def specB (u : UD) : Option Flt :=
  match firstB u with
  | some x => some x
  | none => match secondB u with
    | some x => some x
    | none => thirdB u
end Go.Proofs.YtnokgdgikdgaeaaGreat

namespace Go.Proofs.YtnokgdgikdgaeaaGreat
open Go.RowKit

def withinB (a b : Int) : Bool := decide (0 ≤ a) && decide (a < b)
def classB (c : Int) (k : Int) : Bool :=
  if c = 0 then statB k else if c = 1 then exprB k else if c = 2 then k == 1 else if c = 3 then (k == 1 || k == 5) else if c = 4 then k == 34 else if c = 5 then (k == 34 || k == 37) else if c = 6 then k == 23 else if c = 7 then targetB k else false
/-- The kind of a kid, as the program has it. -/
def kindK (nd : Nat → ND) (place : Nat) (kid : Int) : Int := if 0 ≤ kid ∧ kid < place then (nd kid.toNat).kind else 0
def usesB (d : ND) (o n f s r k : Bool) : Bool := (o || d.op == 0) && (n || d.num == 0) && (f || fzero d.flt) && (s || decide (d.str.toList = [])) && (r || (d.nr : Int) == 0) && (k || (d.nk : Int) == 0)
end Go.Proofs.YtnokgdgikdgaeaaGreat

namespace Go.Proofs.YtnokgdgikdgaeaaGreat
open Go.RowKit

theorem made_int (n i : Nat) (h : i < n) : (madeCells #[.int .i64 0] n)[i]? = some (.int .i64 0) := by
  simp [madeCells, h, Nat.mod_one]
/-- An array of bools. -/
def BArr (c : Array Value) (n : Nat) (f : Nat → Bool) : Prop := c.size = n ∧ ∀ k, k < n → c[k]? = some (.bool (f k))
theorem BArr.set {c : Array Value} {n : Nat} {f : Nat → Bool} (h : BArr c n f) (i : Nat) (v : Bool) : BArr (c.setIfInBounds i (.bool v)) n (fun k => if k = i then v else f k) := by
  refine ⟨by simpa using h.1, fun k hk => ?_⟩
  by_cases e : i = k
  · subst e; simp [h.1, hk]
  · simp only [if_neg (fun x : k = i => e x.symm)]
    have := h.2 k hk
    simp only [Array.getElem?_setIfInBounds, e, if_false]; exact this

theorem info_bool : (Tryz.prog.info? 4).map (fun i => (i.zero, i.size, i.bytes)) = some (some (.bool false), 1, 1) := by kernel_rfl
theorem run_make_bools (n : Nat) (hn : n ≤ 1048576) (w : World) :
    (Instr.makeSlice 72 (.int .i64 n) (.int .i64 n)).run Tryz.prog w = .ok (.slice (some ⟨w.heap.size, 0, none⟩) n n) (w.alloc (.cells (madeCells #[.bool false] n) 4)) := by
  obtain ⟨i0, hi, hz0, hz1, hz2⟩ := info_parts info_bool
  have := run_make (P := Tryz.prog) w 72 4 i0 _ Tryz.underlying72 hi hz0 .i64 .i64 n n (by omega) (by omega) (by rw [hz2]; omega) (by omega)
  simpa [hz1, Value.cells] using this
theorem made_bool (n : Nat) : BArr (madeCells #[.bool false] n) n (fun _ => false) := ⟨size_madeCells _ _, fun k hk => by simp [madeCells, hk, Nat.mod_one]⟩
theorem BArr.congr {c : Array Value} {n : Nat} {f g : Nat → Bool} (h : BArr c n f) (e : ∀ k, k < n → g k = f k) : BArr c n g := ⟨h.1, fun k hk => by rw [e k hk]; exact h.2 k hk⟩
end Go.Proofs.YtnokgdgikdgaeaaGreat

namespace Go.Proofs.YtnokgdgikdgaeaaGreat
open Go.RowKit
attribute [local go_sem] run_store_float

set_option maxHeartbeats 400000 in
theorem within_any (a b : Int) (w : World) : Calls Tryz.prog 43 #[.int .i64 a, .int .i64 b] w fun e w' => e = .returned (.bool (withinB a b)) ∧ w' = w := by
  go_enter Tryz.func43, Tryz.ntmps43
  go_wp2
  all_goals go_ret
  all_goals exact ⟨ret_bool (by simp [withinB, *]; try omega), rfl⟩

set_option maxHeartbeats 400000 in
theorem isStatement_any (k : Int) (w : World) : Calls Tryz.prog 58 #[.int .i64 k] w fun e w' => e = .returned (.bool (statB k)) ∧ w' = w := by
  go_enter Tryz.func58, Tryz.ntmps58
  go_wp2
  all_goals go_ret
  all_goals exact ⟨ret_bool (by simp [statB, *]; try omega), rfl⟩

set_option maxHeartbeats 1000000 in
theorem has_any (c k : Int) (w : World) (h0 : 0 ≤ c) (h7 : c ≤ 7) : Calls Tryz.prog 107 #[.int .i64 c, .int .i64 k] w fun e w' => e = .returned (.bool (classB c k)) ∧ w' = w := by
  have cs : c = 0 ∨ c = 1 ∨ c = 2 ∨ c = 3 ∨ c = 4 ∨ c = 5 ∨ c = 6 ∨ c = 7 := by omega
  clear h0 h7
  rcases cs with rfl | rfl | rfl | rfl | rfl | rfl | rfl | rfl
  · go_enter Tryz.func107, Tryz.ntmps107
    go_wp2_with fail
    refine (isStatement_any _ _).mono ?_
    rintro e w1 ⟨rfl, rfl⟩
    go_wp2_with fail
    go_ret
    exact ⟨ret_bool (by simp [classB]), rfl⟩
  all_goals
    go_enter Tryz.func107, Tryz.ntmps107
    go_wp2
    all_goals go_ret
    all_goals exact ⟨ret_bool (by simp [classB, exprB, targetB, *]; try omega), rfl⟩

set_option maxHeartbeats 400000 in
theorem hasAll_any (c : Int) (a : Option Addr) (n cp : Nat) (f : Nat → Int) (w : World) (h0 : 0 ≤ c) (h7 : c ≤ 7) (hn : n ≤ 1048576) (ha : IntsAt w a n f) :
    Calls Tryz.prog 106 #[.int .i64 c, .slice a n cp] w fun e w' => e = .returned (.bool (allB (fun i => classB c (f i)) 0 n)) ∧ w' = w := by
  go_enter Tryz.func106, Tryz.ntmps106
  go_wp2_with fail
  go_loop [9] (fun i => ∃ k : Nat, k ≤ n ∧ i = .int .i64 k ∧ allB (fun i => classB c (f i)) 0 n = allB (fun i => classB c (f i)) k (n - k)) (fun i => n - (intOf i).toNat)
  case atStart => exact ⟨0, Nat.zero_le _, rfl, rfl⟩
  case round =>
    obtain ⟨k, hk, rfl, hr⟩ := hrel
    have HR : Hid _ := hr
    clear hr
    by_cases hlt : k < n
    · obtain ⟨b, off, rfl, hc⟩ := ha (by omega)
      have hck := hc k hlt
      clear hc
      have hst : Hid (allB (fun i => classB c (f i)) k (n - k) = (classB c (f k) && allB (fun i => classB c (f i)) (k + 1) (n - (k + 1)))) := by
        show _ = _
        rw [show n - k = (n - (k + 1)) + 1 from by omega]; rfl
      go_wp2_with fail
      refine (has_any _ _ _ h0 h7).mono ?_
      rintro e w1 ⟨rfl, rfl⟩
      cases hx : classB c (f k)
      · go_wp2_with fail
        go_ret
        exact ⟨ret_bool (by rw [HR.out, hst.out, hx]; rfl), rfl⟩
      · go_wp2_with fail
        go_round
        case rel => exact ⟨k + 1, by omega, by go_num, by rw [HR.out, hst.out, hx]; rfl⟩
        case measure => simp [intOf]; omega
    · have hst : Hid (allB (fun i => classB c (f i)) k (n - k) = true) := by
        show _ = _
        rw [show n - k = 0 from by omega]; rfl
      go_wp2_with fail
      go_ret
      exact ⟨ret_bool (by rw [HR.out, hst.out]), rfl⟩

set_option maxHeartbeats 1000000 in
theorem kindsOf_any (a : Option Addr) (n : Nat) (nm : Nat → NM) (pl pc : Nat) (ka : Option Addr) (nk kc : Nat) (kd : Nat → Int) (w : World) (hn : n ≤ 1048576) (hpl : pl ≤ n) (hk : nk ≤ 1048576) (ha : NodesAt w a n nm) (hka : IntsAt w ka nk kd) :
    Calls Tryz.prog 57 #[.slice a pl pc, .slice ka nk kc] w fun e w' => ∃ a', e = .returned (.slice a' nk nk) ∧ Onw w w' ∧ IntsAt w' a' nk (fun i => kindK (ndOf nm) pl (kd i)) ∧ Frm w.heap.size a' := by
  have hmk := run_make_ints nk hk
  go_enter Tryz.func57, Tryz.ntmps57
  go_wp2_with fail
  clear hmk
  go_loopw [13] (fun i wr => ∃ k : Nat, k ≤ nk ∧ i = .int .i64 k ∧ Onw w wr ∧ ∃ cur, Blk wr w.heap.size 3 cur ∧ Arr cur nk (fun i => if i < k then kindK (ndOf nm) pl (kd i) else 0)) (fun i _ => nk - (intOf i).toNat)
  case atStart => exact ⟨0, Nat.zero_le _, rfl, Onw.alloc _ _, _, Blk.new _ _ _, size_madeCells _ _, fun k hk => by simp [made_int nk k hk]⟩
  case round =>
    obtain ⟨k, hkk, rfl, hb, cur, hbl, A⟩ := hrel
    by_cases hlt : k < nk
    · obtain ⟨kb, ko, rfl, hcc⟩ := hka.onw hb (by omega)
      have hki := hcc k hlt
      clear hcc
      by_cases hin : 0 ≤ kd k ∧ kd k < pl
      · obtain ⟨i1, i2⟩ := hin
        have hw : Hid (withinB (kd k) pl = true) := by show _ = _; simp [withinB]; omega
        obtain ⟨q, hq⟩ := Int.eq_ofNat_of_zero_le i1
        obtain ⟨b, off, rfl, hc⟩ := (ha.onw hb).1 (by omega)
        have c0 := (hc q (by omega)).c0
        have R : Hid (Arr (cur.setIfInBounds k (.int .i64 (nm q).kind)) nk (fun i => if i < k + 1 then kindK (ndOf nm) pl (kd i) else 0)) := by
          refine A.set k _ fun x hx => ?_
          by_cases e : x = k
          · subst e
            simp only [if_pos (Nat.lt_succ_self x), if_true]
            unfold kindK; rw [if_pos ⟨i1, i2⟩, hq]; rfl
          · by_cases e2 : x < k
            · simp [e, e2, Nat.lt_succ_of_lt e2]
            · simp [e, e2]; intro h; omega
        have hwq : Hid (withinB (q : Int) pl = true) := by show _ = _; rw [← hq]; exact hw.out
        rw [hq] at hki i2
        clear hc hq i1
        obtain ⟨x0, g0⟩ := hbl.some (j := k) (by rw [A.1]; exact hlt)
        have hf := hbl.free
        go_wp2_with fail
        refine (within_any _ _ _).mono ?_
        rintro e w1 ⟨rfl, rfl⟩
        rw [hwq.out]
        go_wp2_with fail
        go_roundw
        case rel => exact ⟨k + 1, by omega, by go_num, below_set hb (Nat.le_refl _) _, _, hbl.set k _, R.out⟩
        case measure => simp [intOf]; omega
      · have hw : Hid (withinB (kd k) pl = false) := by
          show _ = _
          rw [← Bool.not_eq_true]; simp [withinB]; omega
        have R : Hid (Arr cur nk (fun i => if i < k + 1 then kindK (ndOf nm) pl (kd i) else 0)) := by
          refine ⟨A.1, fun x hx => ?_⟩
          rw [A.2 x hx]
          by_cases e : x = k
          · subst e
            have : kindK (ndOf nm) pl (kd x) = 0 := by unfold kindK; rw [if_neg hin]
            simp [this]
          · by_cases e2 : x < k
            · simp [e2, Nat.lt_succ_of_lt e2]
            · have : ¬ x < k + 1 := by omega
              simp [e2, this]
        go_wp2_with fail
        refine (within_any _ _ _).mono ?_
        rintro e w1 ⟨rfl, rfl⟩
        rw [hw.out]
        go_wp2_with fail
        go_roundw
        case rel => exact ⟨k + 1, by omega, by go_num, hb, _, hbl, R.out⟩
        case measure => simp [intOf]; omega
    · go_wp2_with fail
      go_ret
      have : k = nk := by omega
      subst this
      refine ⟨_, rfl, hb, fun _ => ⟨_, 0, rfl, fun i hi => ?_⟩, fun x hx => by cases hx; exact Nat.le_refl _⟩
      rw [hbl.cell, Nat.zero_add, A.2 i hi]; simp [hi]
end Go.Proofs.YtnokgdgikdgaeaaGreat

namespace Go.Proofs.YtnokgdgikdgaeaaGreat
open Go.RowKit
attribute [local go_sem] run_store_float

def fitsH (d : FD) : Bool := headA d && decide (0 ≤ d.line) && decide (d.line ≤ 100000)
def namesB (d : FD) : Bool := allB (fun i => nameB (d.vr i) 1) 0 d.nv && decide ((d.name.size : Int) ≤ 40)

set_option maxHeartbeats 1000000 in
theorem headFits_any (m : FM) (w : World) : Calls Tryz.prog 39 #[.agg #[.string m.name, .int .i64 m.line, .int .i64 m.params, .bool m.rest, .slice m.va m.nv m.vc, .slice m.ua m.nu m.uc, .slice m.na m.nn m.nc]] w fun e w' => e = .returned (.bool (fitsH m.toFD)) ∧ Onw w w' := by
  have fin : Hid (fitsH m.toFD = (decide (0 < m.nn) && decide (m.nv ≤ 200) && decide (m.nu ≤ 200) && decide (0 ≤ m.params) && decide (m.params ≤ m.nv) && decide (0 ≤ m.line) && decide (m.line ≤ 100000))) := rfl
  go_enter Tryz.func39, Tryz.ntmps39
  go_wp2
  all_goals go_ret
  all_goals exact ⟨ret_bool (by rw [fin.out]; simp [*] <;> omega), Onw.alloc _ _⟩

set_option maxHeartbeats 1000000 in
theorem namesFit_any (m : FM) (w : World) (hv : m.nv ≤ 1048576) (ha : StrsAt w m.va m.nv m.vr) :
    Calls Tryz.prog 40 #[.agg #[.string m.name, .int .i64 m.line, .int .i64 m.params, .bool m.rest, .slice m.va m.nv m.vc, .slice m.ua m.nu m.uc, .slice m.na m.nn m.nc]] w fun e w' => e = .returned (.bool (namesB m.toFD)) ∧ Onw w w' := by
  obtain ⟨name, line, params, rest, nv, vr, nu, ul, ui, nn, nm, va, vc, ua, uc, na, nc⟩ := m
  simp only at *
  have fin : Hid (namesB (FM.toFD ⟨name, line, params, rest, nv, vr, nu, ul, ui, nn, nm, va, vc, ua, uc, na, nc⟩) = (allB (fun i => nameB (vr i) 1) 0 nv && decide ((name.size : Int) ≤ 40))) := rfl
  go_enter Tryz.func40, Tryz.ntmps40
  go_wp2_with fail
  go_loop [8] (fun i => ∃ k : Nat, k ≤ nv ∧ i = .int .i64 k ∧ allB (fun i => nameB (vr i) 1) 0 nv = allB (fun i => nameB (vr i) 1) k (nv - k)) (fun i => nv - (intOf i).toNat)
  case atStart => exact ⟨0, Nat.zero_le _, rfl, rfl⟩
  case round =>
    obtain ⟨k, hk, rfl, hr⟩ := hrel
    have HR : Hid _ := hr
    clear hr
    by_cases hlt : k < nv
    · obtain ⟨vb, vo, rfl, hvc⟩ := ha (by omega)
      have hvk := hvc k hlt
      have zv := cell_lt hvk
      clear hvc
      have hst : Hid (allB (fun i => nameB (vr i) 1) k (nv - k) = (nameB (vr k) 1 && allB (fun i => nameB (vr i) 1) (k + 1) (nv - (k + 1)))) := by
        show _ = _
        rw [show nv - k = (nv - (k + 1)) + 1 from by omega]; rfl
      by_cases hx : 1 ≤ (vr k).size ∧ (vr k).size ≤ 40
      · have nb : Hid (nameB (vr k) 1 = true) := by show _ = _; simp [nameB]; omega
        obtain ⟨x1, x2⟩ := hx
        go_wp2_with fail
        go_round
        case rel => exact ⟨k + 1, by omega, by go_num, by rw [HR.out, hst.out, nb.out]; rfl⟩
        case measure => simp [intOf]; omega
      · have nb : Hid (nameB (vr k) 1 = false) := by show _ = _; rw [← Bool.not_eq_true]; simp [nameB]; omega
        have hx' : (vr k).size < 1 ∨ (1 ≤ (vr k).size ∧ 40 < (vr k).size) := by omega
        clear hx
        rcases hx' with x1 | ⟨x1, x2⟩
        all_goals
          go_wp2_with fail
          go_ret
          exact ⟨ret_bool (by rw [fin.out, HR.out, hst.out, nb.out]; rfl), Onw.alloc _ _⟩
    · have hst : Hid (allB (fun i => nameB (vr i) 1) k (nv - k) = true) := by
        show _ = _
        rw [show nv - k = 0 from by omega]; rfl
      go_wp2_with fail
      go_ret
      exact ⟨ret_bool (by rw [fin.out, HR.out, hst.out, Bool.true_and]; try rfl), Onw.alloc _ _⟩

set_option maxRecDepth 100000 in
set_option maxHeartbeats 1000000 in
theorem sizeFits_any (u : UM) (w : World) (hn : u.nf ≤ 1048576) (hsum : sumTo (fun i => (u.fm i).nn) u.nf ≤ 1048576) (ha : u.At w) :
    Calls Tryz.prog 15 #[.agg #[.slice u.fa u.nf u.fc]] w fun e w' => e = .returned (.bool (!sizeBad u.toUD)) ∧ Onw w w' := by
  obtain ⟨nf, fm, fa, fc⟩ := u
  simp only at *
  have hmono : ∀ k, k ≤ nf → sumTo (fun i => (fm i).nn) k ≤ sumTo (fun i => (fm i).nn) nf := fun k hk => sumTo_mono _ k nf hk
  have HM : Hid _ := hmono
  clear hmono
  have fin : Hid (sizeBad (UM.toUD ⟨nf, fm, fa, fc⟩) = ((nf : Int) == 0 || decide ((300 : Int) < nf) || decide (3000 < ((sumTo (fun i => (fm i).nn) nf : Nat) : Int)))) := rfl
  by_cases h1 : nf < 1 ∨ 300 < nf
  · have fn : Hid (sizeBad (UM.toUD ⟨nf, fm, fa, fc⟩) = true) := by
      show _ = _
      rw [fin.out]
      rcases h1 with h | h
      · have : nf = 0 := by omega
        subst this; rfl
      · rw [decide_eq_true (show (300 : Int) < nf by omega)]; simp
    rcases h1 with h | h
    all_goals
      go_enter Tryz.func15, Tryz.ntmps15
      go_wp2_with fail
      go_ret
      exact ⟨ret_bool (by rw [fn.out]; rfl), Onw.alloc _ _⟩
  · have fn : Hid (sizeBad (UM.toUD ⟨nf, fm, fa, fc⟩) = decide (3000 < ((sumTo (fun i => (fm i).nn) nf : Nat) : Int))) := by
      show _ = _
      have e1 : ((nf : Int) == 0) = false := by simp; omega
      rw [fin.out, e1, decide_eq_false (show ¬ (300 : Int) < nf by omega)]; rfl
    have t1 : decide ((nf : Int) < 1) = false := by simp; omega
    have t2 : decide ((300 : Int) < (nf : Int)) = false := by simp; omega
    go_enter Tryz.func15, Tryz.ntmps15
    go_wp2_with fail
    go_loopw [3, 19] (fun t i wr => ∃ k : Nat, k ≤ nf ∧ i = .int .i64 k ∧ t = .int .i64 (sumTo (fun i => (fm i).nn) k : Nat) ∧ Onw w wr ∧ Blk wr w.heap.size 31 #[.slice fa nf fc]) (fun _ i _ => nf - (intOf i).toNat)
    case atStart => exact ⟨0, Nat.zero_le _, rfl, rfl, Onw.alloc _ _, Blk.new _ _ _⟩
    case round =>
      obtain ⟨k, hk, rfl, rfl, ob, B0⟩ := hrel
      by_cases hlt : k < nf
      · obtain ⟨b, off, rfl, hc⟩ := FnsAt.onw ob ha |>.1 (by show 0 < nf; omega)
        obtain ⟨c0, c1, c2, c3, c4, c5, c6⟩ := hc k hlt
        have m1 := HM.out (k + 1) (by omega)
        have st : Hid (sumTo (fun i => (fm i).nn) (k + 1) = sumTo (fun i => (fm i).nn) k + (fm k).nn) := rfl
        rw [st.out] at m1
        clear hc
        go_wp2_with fail
        go_roundw
        case rel => exact ⟨k + 1, by omega, by go_num, by rw [st.out]; go_num, ob.trans (Onw.alloc _ _), B0.onw (Onw.alloc _ _)⟩
        case measure => simp [intOf]; omega
      · have : k = nf := by omega
        subst this
        go_wp2_with fail
        go_ret
        have neg : ∀ x : Int, decide (x ≤ 3000) = !decide (3000 < x) := fun x => by rw [← decide_not]; exact decide_eq_decide.2 (by omega)
        exact ⟨ret_bool (by rw [fn.out]; exact neg _), ob⟩
end Go.Proofs.YtnokgdgikdgaeaaGreat

namespace Go.Proofs.YtnokgdgikdgaeaaGreat
open Go.RowKit
attribute [local go_sem] run_store_float

set_option maxHeartbeats 1000000 in
theorem head_any (m : NM) (p : Int) (kk : Option Addr) (kn kc : Nat) (w : World) :
    Calls Tryz.prog 102 #[.agg #[.int .i64 p, .int .i64 m.kind, .int .i64 m.line, .int .i64 m.op, .int .i64 m.num, .float .f64 m.flt, .string m.str, .slice m.ra m.nr m.rc, .slice m.ka m.nk m.kc, .slice kk kn kc]] w fun e w' => e = .returned (.agg #[.int .i64 p, .int .i64 m.kind, .int .i64 m.line, .int .i64 m.op, .int .i64 m.num, .float .f64 m.flt, .string m.str, .slice m.ra m.nr m.rc, .slice m.ka m.nk m.kc, .slice kk kn kc]) ∧ Onw w w' := by
  go_enter Tryz.func102, Tryz.ntmps102
  go_wp2
  exact bodyPost_ret (v := .agg #[.int .i64 p, .int .i64 m.kind, .int .i64 m.line, .int .i64 m.op, .int .i64 m.num, .float .f64 m.flt, .string m.str, .slice m.ra m.nr m.rc, .slice m.ka m.nk m.kc, .slice kk kn kc]) (by simp [results, Tryz.results102, go_sem]) rfl ⟨rfl, (Onw.alloc _ _).trans (Onw.alloc _ _)⟩

/-- The place of a fault, or that there is none. -/
def orNone (b : Bool) (n : Int) : Int := if b then -1 else n

/-- Code 2 of a fn, as the program asks it. -/
def headF (d : FD) (f : Nat) : Bool := fitsH d && namesB d && (!((f : Int) == 0) || (d.params == 0 && (d.nu : Int) == 0))

set_option maxRecDepth 100000 in
set_option maxHeartbeats 2000000 in
theorem headFault_any (u : UM) (fa sa ma : Option Addr) (fn' fc' sn sc mn mc : Nat) (f : Nat) (w : World) (hf : f < u.nf) (hn : u.nf ≤ 1048576) (hs : (u.fm f).Small) (ha : u.At w) :
    Calls Tryz.prog 18 #[.agg #[.slice u.fa u.nf u.fc, .slice fa fn' fc', .slice sa sn sc, .slice ma mn mc], .int .i64 f] w
      fun e w' => e = .returned (.int .i64 (orNone (headF (u.fm f).toFD f) 0)) ∧ Onw w w' := by
  obtain ⟨nf, fm, ua, uc⟩ := u
  simp only at *
  obtain ⟨b, off, hua, hc⟩ := FnsAt.onw (Onw.refl w) ha |>.1 (by show 0 < nf; omega)
  simp only at hua
  subst hua
  obtain ⟨c0, c1, c2, c3, c4, c5, c6⟩ := hc f hf
  have zb := cell_lt c0
  have aF := ha.2 f hf
  simp only at aF
  clear hc
  have zf : ((f : Int) == 0) = true ∨ ((f : Int) == 0) = false := by cases ((f : Int) == 0) <;> simp
  have zp : ((fm f).params != 0) = true ∨ ((fm f).params != 0) = false := by cases ((fm f).params != 0) <;> simp
  have zu : (((fm f).nu : Int) != 0) = true ∨ (((fm f).nu : Int) != 0) = false := by cases (((fm f).nu : Int) != 0) <;> simp
  have fin : Hid (headF (fm f).toFD f = (fitsH (fm f).toFD && namesB (fm f).toFD && (!((f : Int) == 0) || ((fm f).params == 0 && ((fm f).nu : Int) == 0)))) := rfl
  go_enter Tryz.func18, Tryz.ntmps18
  go_wp2_with fail
  refine (headFits_any (fm f) _).mono ?_
  rintro e w1 ⟨rfl, hb1⟩
  have X := Blk.onw hb1 (Blk.new (w.alloc (Obj.cells #[.slice (some ⟨b, off, none⟩) nf uc, .slice fa fn' fc', .slice sa sn sc, .slice ma mn mc] 44)) 61 #[.string (fm f).name, .int .i64 (fm f).line, .int .i64 (fm f).params, .bool (fm f).rest, .slice (fm f).va (fm f).nv (fm f).vc, .slice (fm f).ua (fm f).nu (fm f).uc, .slice (fm f).na (fm f).nn (fm f).nc])
  have o1 : Onw w w1 := ((Onw.alloc _ _).trans (Onw.alloc _ _)).trans hb1
  simp only [World.size_alloc] at X
  clear c0 c1 c2 c3 c4 c5 c6 hb1
  have x := X.cell
  cases h1 : fitsH (fm f).toFD
  · go_wp2_with fail
    go_ret
    exact ⟨ret_int (by rw [fin.out, h1]; rfl), o1⟩
  · go_wp2_with fail
    refine (namesFit_any (fm f) _ hs.1 (by exact aF.1.onw o1)).mono ?_
    rintro e w2 ⟨rfl, hb2⟩
    have X2 := X.onw hb2
    have o2 := o1.trans hb2
    clear x X
    have x := X2.cell
    cases h2 : namesB (fm f).toFD
    · go_wp2_with fail
      go_ret
      exact ⟨ret_int (by rw [fin.out, h1, h2]; rfl), o2⟩
    · rcases zf with zf | zf
      · rcases zp with zp | zp
        · have zp' : Hid (((fm f).params == 0) = false) := by show _ = _; simpa using zp
          go_wp2_with fail
          go_ret
          exact ⟨ret_int (by rw [fin.out, h1, h2, zf, zp'.out]; rfl), o2⟩
        · have zp' : Hid (((fm f).params == 0) = true) := by show _ = _; simpa using zp
          rcases zu with zu | zu
          · have zu' : Hid ((((fm f).nu : Int) == 0) = false) := by show _ = _; simpa using zu
            go_wp2_with fail
            go_ret
            exact ⟨ret_int (by rw [fin.out, h1, h2, zf, zp'.out, zu'.out]; rfl), o2⟩
          · have zu' : Hid ((((fm f).nu : Int) == 0) = true) := by show _ = _; simpa using zu
            go_wp2_with fail
            go_ret
            exact ⟨ret_int (by rw [fin.out, h1, h2, zf, zp'.out, zu'.out]; rfl), o2⟩
      · go_wp2_with fail
        go_ret
        exact ⟨ret_int (by rw [fin.out, h1, h2, zf]; rfl), o2⟩
end Go.Proofs.YtnokgdgikdgaeaaGreat

namespace Go.Proofs.YtnokgdgikdgaeaaGreat
open Go.RowKit

/-- Variables marked as declared, from place i on. -/
def decL (nv : Nat) (rf : Nat → Int) (dec : Nat → Int) (i : Nat) : Nat → Bool × (Nat → Int)
  | 0 => (true, dec)
  | m + 1 => if rf i < 0 ∨ (nv : Int) ≤ rf i then (false, dec) else if dec (rf i).toNat ≠ 0 then (false, dec) else decL nv rf (fun k => if k = (rf i).toNat then 1 else dec k) (i + 1) m

set_option maxHeartbeats 1000000 in
theorem declareAll_any (db nv : Nat) (cur : Array Value) (dec : Nat → Int) (ra : Option Addr) (nr rc : Nat) (rf : Nat → Int) (w : World) (hr : nr ≤ 1048576) (hd : Blk w db 3 cur) (hA : Arr cur nv dec) (hra : IntsAt w ra nr rf) (hsep : 0 < nr → ∀ x, ra = some x → x.block ≠ db) :
    Calls Tryz.prog 44 #[.slice (some ⟨db, 0, none⟩) nv nv, .slice ra nr rc] w fun e w' => ∃ cur', e = .returned (.bool (decL nv rf dec 0 nr).1) ∧ Below db w w' ∧ Kept (· ≠ db) w w' ∧ Blk w' db 3 cur' ∧ Arr cur' nv (decL nv rf dec 0 nr).2 := by
  go_enter Tryz.func44, Tryz.ntmps44
  go_wp2_with fail
  go_loopw [9] (fun i wr => ∃ (k : Nat) (cur' : Array Value) (dec' : Nat → Int), k ≤ nr ∧ i = .int .i64 k ∧ Below db w wr ∧ Kept (· ≠ db) w wr ∧ Blk wr db 3 cur' ∧ Arr cur' nv dec' ∧ decL nv rf dec 0 nr = decL nv rf dec' k (nr - k)) (fun i _ => nr - (intOf i).toNat)
  case atStart => exact ⟨0, cur, dec, Nat.zero_le _, rfl, Below.refl _ _, Kept.refl _ _, hd, hA, rfl⟩
  case round =>
    clear hd hA
    obtain ⟨k, cur, dec', hk, rfl, hb, hK, hd, hA, hq⟩ := hrel
    have HQ : Hid _ := hq
    clear hq
    by_cases hlt : k < nr
    · have hI := IntsAt.kept hK (fun x hx => hsep (by omega) x hx) hra
      obtain ⟨rb, ro, rfl, hrc⟩ := hI (by omega)
      have hrk := hrc k hlt
      clear hrc
      have st : Hid (decL nv rf dec' k (nr - k) = if rf k < 0 ∨ (nv : Int) ≤ rf k then (false, dec') else if dec' (rf k).toNat ≠ 0 then (false, dec') else decL nv rf (fun x => if x = (rf k).toNat then 1 else dec' x) (k + 1) (nr - (k + 1))) := by
        show _ = _
        rw [show nr - k = (nr - (k + 1)) + 1 from by omega]; rfl
      by_cases hbad : rf k < 0 ∨ (nv : Int) ≤ rf k
      · have fin : Hid (decL nv rf dec 0 nr = (false, dec')) := by show _ = _; rw [HQ.out, st.out, if_pos hbad]
        have hw : Hid (withinB (rf k) nv = false) := by show _ = _; rw [← Bool.not_eq_true]; simp [withinB]; omega
        clear hbad
        go_wp2_with fail
        refine (within_any _ _ _).mono ?_
        rintro e w1 ⟨rfl, rfl⟩
        rw [hw.out]
        go_wp2_with fail
        go_ret
        exact ⟨cur, ret_bool (by rw [fin.out]), hb, hK, hd, by rw [fin.out]; exact hA⟩
      · obtain ⟨q, hqq⟩ := Int.eq_ofNat_of_zero_le (show 0 ≤ rf k by omega)
        have hqn : q < nv := by omega
        have hw : Hid (withinB (q : Int) nv = true) := by show _ = _; simp [withinB]; omega
        have st2 : Hid (decL nv rf dec 0 nr = if dec' q ≠ 0 then (false, dec') else decL nv rf (fun x => if x = q then 1 else dec' x) (k + 1) (nr - (k + 1))) := by
          show _ = _
          rw [HQ.out, st.out, if_neg hbad, hqq]; rfl
        rw [hqq] at hrk
        clear hbad hqq st HQ
        have g0 : wr.cell? ⟨db, q, none⟩ = some (.int .i64 (dec' q)) := by rw [hd.cell]; exact hA.2 q hqn
        have fs := hd.free
        cases hx : (dec' q != 0)
        · have hz : Hid (dec' q = 0) := by show _ = _; simpa using hx
          have R : Hid (Arr (cur.setIfInBounds q (.int .i64 1)) nv (fun x => if x = q then 1 else dec' x)) := hA.set q 1 (fun _ _ => rfl)
          go_wp2_with fail
          refine (within_any _ _ _).mono ?_
          rintro e w1 ⟨rfl, rfl⟩
          rw [hw.out]
          go_wp2_with fail
          go_roundw
          case rel => exact ⟨k + 1, _, _, by omega, by go_num, below_set hb (Nat.le_refl _) _, hK.trans (kept_setCell _ _ _ _), hd.set q _, R.out, by rw [st2.out, if_neg (by rw [hz.out]; simp)]⟩
          case measure => simp [intOf]; omega
        · have hz : Hid (dec' q ≠ 0) := by show _ ≠ _; simpa using hx
          go_wp2_with fail
          refine (within_any _ _ _).mono ?_
          rintro e w1 ⟨rfl, rfl⟩
          rw [hw.out]
          go_wp2_with fail
          go_ret
          exact ⟨cur, ret_bool (by rw [st2.out, if_pos hz.out]), hb, hK, hd, by rw [st2.out, if_pos hz.out]; exact hA⟩
    · have fin : Hid (decL nv rf dec 0 nr = (true, dec')) := by
        show _ = _
        rw [HQ.out, show nr - k = 0 from by omega]; rfl
      go_wp2_with fail
      go_ret
      exact ⟨cur, ret_bool (by rw [fin.out]), hb, hK, hd, by rw [fin.out]; exact hA⟩

/-- The walker's block: fns, forms, ups, holds, loops, sights. -/
structure WalkAt (w : World) (wb : Nat) (f1 f2 : Value) (ups : Int) (hb nv : Nat) (loops : Int) (sb nn : Nat) : Prop where
  blk : Blk w wb 89 #[f1, f2, .int .i64 ups, .slice (some ⟨hb, 0, none⟩) nv nv, .int .i64 loops, .slice (some ⟨sb, 0, none⟩) nn nn]

def scopeB (nv : Nat) (h : Nat → Int) (v : Int) : Bool := withinB v nv && decide (0 < h v.toNat)

set_option maxHeartbeats 1000000 in
theorem inScope_any (wb : Nat) (f1 f2 : Value) (ups : Int) (hb nv : Nat) (loops : Int) (sb nn : Nat) (cur : Array Value) (h : Nat → Int) (v : Int) (w : World) (W : WalkAt w wb f1 f2 ups hb nv loops sb nn) (B : Blk w hb 3 cur) (A : Arr cur nv h) :
    Calls Tryz.prog 65 #[.pointer (some ⟨wb, 0, none⟩), .int .i64 v] w fun e w' => e = .returned (.bool (scopeB nv h v)) ∧ w' = w := by
  have x := W.blk.cell
  by_cases hin : 0 ≤ v ∧ v < nv
  · obtain ⟨q, rfl⟩ := Int.eq_ofNat_of_zero_le hin.1
    have hw : Hid (withinB (q : Int) nv = true) := by show _ = _; simp [withinB]; omega
    have hqn : q < nv := by omega
    have g0 : w.cell? ⟨hb, q, none⟩ = some (.int .i64 (h q)) := by rw [B.cell]; exact A.2 q hqn
    clear hin
    go_enter Tryz.func65, Tryz.ntmps65
    go_wp2_with fail
    refine (within_any _ _ _).mono ?_
    rintro e w1 ⟨rfl, rfl⟩
    rw [hw.out]
    go_wp2_with fail
    go_ret
    exact ⟨ret_bool (by rw [scopeB, hw.out]; rfl), rfl⟩
  · have hw : Hid (withinB v nv = false) := by show _ = _; rw [← Bool.not_eq_true]; simp [withinB]; omega
    clear hin
    go_enter Tryz.func65, Tryz.ntmps65
    go_wp2_with fail
    refine (within_any _ _ _).mono ?_
    rintro e w1 ⟨rfl, rfl⟩
    rw [hw.out]
    go_wp2_with fail
    go_ret
    exact ⟨ret_bool (by rw [scopeB, hw.out]; rfl), rfl⟩
end Go.Proofs.YtnokgdgikdgaeaaGreat
