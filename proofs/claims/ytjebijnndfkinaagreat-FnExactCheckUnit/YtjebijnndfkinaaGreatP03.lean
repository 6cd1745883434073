import Derived.Test.YtjebijnndfkinaaGreatP02
import Derived.Test.YtjebijnndfkinaaGreatP00
import Derived.Deep.QuietTactic
import Derived.BigQuiet
import Derived.BigRegion
import Derived.Deep.RegionWith
import Derived.Deep.RegionHeld3
import Derived.Deep.DeepCutAuto
namespace Go.Proofs.YtjebijnndfkinaaGreat
open Go.RowKit

def headA (d : FD) : Bool := decide (0 < d.nn) && decide (d.nv ≤ 200) && decide (d.nu ≤ 200) && decide (0 ≤ d.params) && decide (d.params ≤ d.nv)
def headZ (d : FD) (f : Nat) : Bool := !((f : Int) == 0) || (decide (d.params ≤ 0) && decide (d.nu = 0))
def headC (d : FD) (f : Nat) : Bool := decide (0 ≤ d.line) && decide (d.line ≤ 100000) && nameB d.name 0 && headZ d f
def headB (d : FD) (f : Nat) : Bool := headA d && headC d f && allB (fun i => nameB (d.vr i) 1) 0 d.nv

/-- Code 6 of a node: what has been seen, and whether it is right. -/
def seeL (nv : Nat) (rf : Nat → Int) (seen : Nat → Bool) (i : Nat) : Nat → Bool × (Nat → Bool)
  | 0 => (true, seen)
  | m + 1 => if rf i < 0 ∨ (nv : Int) ≤ rf i then (false, seen) else if seen (rf i).toNat then (false, seen) else seeL nv rf (fun k => if k = (rf i).toNat then true else seen k) (i + 1) m

def refsB (u : UD) (d : FD) (par : Nat → Int) (at_ : Nat) (seen : Nat → Bool) : Bool × (Nat → Bool) :=
  let x := d.nd at_
  if x.kind = 27 then (decide (0 ≤ x.rf 0) && decide (x.rf 0 < d.nu), seen)
  else if x.kind = 36 then (decide (0 ≤ x.rf 0) && decide (x.rf 0 < u.nf), seen)
  else if x.kind = 26 then (decide (0 ≤ x.rf 0) && decide (x.rf 0 < d.nv) && visB d par at_ (x.rf 0), seen)
  else seeL d.nv x.rf seen 0 x.nr

def upB (d : FD) (par : Nat → Int) (at_ : Nat) (l : Bool) (ix : Int) : Bool :=
  if l then decide (0 ≤ ix) && decide (ix < d.nv) && visB d par at_ ix else decide (0 ≤ ix) && decide (ix < d.nu)
def upsB (d : FD) (par : Nat → Int) (at_ : Nat) (g : FD) : Bool := allB (fun i => upB d par at_ (g.ul i) (g.ui i)) 0 g.nu
end Go.Proofs.YtjebijnndfkinaaGreat

namespace Go.Proofs.YtjebijnndfkinaaGreat
open Go.RowKit

/-- A fault: its code, fn and node. -/
structure Flt where
  code : Int
  fn : Int
  node : Int

/-- The first place from i on, of m, of which p says true. -/
def findN (p : Nat → Bool) (i : Nat) : Nat → Option Nat
  | 0 => none
  | m + 1 => if p i then some i else findN p (i + 1) m
/-- The first fn from f on, of m, and its place. -/
def findF (q : Nat → Option Nat) (f : Nat) : Nat → Option (Nat × Nat)
  | 0 => none
  | m + 1 => match q f with
    | some n => some (f, n)
    | none => findF q (f + 1) m
def fltOf (code : Int) : Option (Nat × Nat) → Option Flt
  | none => none
  | some (f, n) => some ⟨code, f, n⟩

def fval : Option Flt → Value
  | none => .agg #[.int .i64 0, .int .i64 0, .int .i64 0]
  | some x => .agg #[.int .i64 x.code, .int .i64 x.fn, .int .i64 x.node]

def headsBad (u : UD) : Option (Nat × Nat) := findF (fun f => if headB (u.fn f) f then none else some 0) 0 u.nf
def shapesBad (u : UD) : Option (Nat × Nat) := findF (fun f => findN (fun n => !shapeB (u.fn f).nd n) 0 (u.fn f).nn) 0 u.nf
def sizeBad (u : UD) : Bool := (u.nf : Int) == 0 || decide ((300 : Int) < u.nf) || decide (3000 < ((sumTo (fun i => (u.fn i).nn) u.nf : Nat) : Int))

def firstB (u : UD) : Option Flt :=
  if sizeBad u then some ⟨1, 0, 0⟩ else
  match fltOf 2 (headsBad u) with
  | some x => some x
  | none => fltOf 3 (shapesBad u)

theorem sumTo_mono (f : Nat → Nat) : ∀ (k n : Nat), k ≤ n → sumTo f k ≤ sumTo f n
  | k, 0, h => by have : k = 0 := by omega
                  subst this; exact Nat.le_refl _
  | k, n + 1, h => by
    by_cases e : k = n + 1
    · subst e; exact Nat.le_refl _
    · have := sumTo_mono f k n (by omega)
      simp only [sumTo]; omega
theorem findF_step (q : Nat → Option Nat) (f m : Nat) : findF q f (m + 1) = match q f with | some n => some (f, n) | none => findF q (f + 1) m := rfl
theorem findN_step (p : Nat → Bool) (i m : Nat) : findN p i (m + 1) = if p i then some i else findN p (i + 1) m := rfl
end Go.Proofs.YtjebijnndfkinaaGreat

namespace Go.Proofs.YtjebijnndfkinaaGreat
open Go.RowKit

def bad4 (d : FD) (n : Nat) : Bool :=
  if (n : Int) == (d.nn : Int) - 1 then (parE d.nd d.nn n != -1) || ((d.nd n).kind != 1) else decide (parE d.nd d.nn n < 0)
def bad5 (d : FD) (n : Nat) : Bool := decide (100 < depE d.nd d.nn n)
def secondB (u : UD) : Option Flt :=
  match fltOf 4 (findF (fun f => findN (bad4 (u.fn f)) 0 (u.fn f).nn) 0 u.nf) with
  | some x => some x
  | none => fltOf 5 (findF (fun f => findN (bad5 (u.fn f)) 0 (u.fn f).nn) 0 u.nf)

/-- What codes 1 to 3 leave. -/
structure Ok3 (d : FD) : Prop where
  pos : 0 < d.nn
  kids : ∀ i, i < d.nn → ∀ j, j < (d.nd i).nk → 0 ≤ (d.nd i).kd j ∧ (d.nd i).kd j < i
end Go.Proofs.YtjebijnndfkinaaGreat

namespace Go.Proofs.YtjebijnndfkinaaGreat
open Go.RowKit

def seen0 (params : Int) : Nat → Bool := fun v => decide ((v : Int) < params)
def find6 (u : UD) (d : FD) (par : Nat → Int) (seen : Nat → Bool) (n : Nat) : Nat → Option Nat
  | 0 => none
  | m + 1 => if (refsB u d par n seen).1 then find6 u d par (refsB u d par n seen).2 (n + 1) m else some n
def bad6 (u : UD) (f : Nat) : Option Nat := find6 u (u.fn f) (parE (u.fn f).nd (u.fn f).nn) (seen0 (u.fn f).params) 0 (u.fn f).nn
def jumpK (d : ND) : Bool := d.kind == 9 || d.kind == 10
def bad7 (d : FD) (n : Nat) : Bool := jumpK (d.nd n) && !loopUp d.nd (parE d.nd d.nn) d.nn n

def make8 (u : UD) (f : Nat) (par : Nat → Int) (made : Nat → Bool) (n : Nat) : Nat → Option Nat × (Nat → Bool)
  | 0 => (none, made)
  | m + 1 =>
    let d := u.fn f
    if (d.nd n).kind = 37 ∧ d.rest = false then (some n, made)
    else if (d.nd n).kind ≠ 36 then make8 u f par made (n + 1) m
    else if (d.nd n).rf 0 ≤ f ∨ made ((d.nd n).rf 0).toNat = true ∨ upsB d par n (u.fn ((d.nd n).rf 0).toNat) = false then (some n, made)
    else make8 u f par (fun k => if k = ((d.nd n).rf 0).toNat then true else made k) (n + 1) m
def find8 (u : UD) (made : Nat → Bool) (f : Nat) : Nat → Option (Nat × Nat) × (Nat → Bool)
  | 0 => (none, made)
  | m + 1 => match make8 u f (parE (u.fn f).nd (u.fn f).nn) made 0 (u.fn f).nn with
    | (some n, md) => (some (f, n), md)
    | (none, md) => find8 u md (f + 1) m

def thirdB (u : UD) : Option Flt :=
  match fltOf 6 (findF (bad6 u) 0 u.nf) with
  | some x => some x
  | none =>
    match fltOf 7 (findF (fun f => findN (bad7 (u.fn f)) 0 (u.fn f).nn) 0 u.nf) with
    | some x => some x
    | none =>
      match find8 u (fun _ => false) 0 u.nf with
      | (some (f, n), _) => some ⟨8, f, n⟩
      | (none, md) => match findN (fun f => !md f) 1 (u.nf - 1) with
        | some f => some ⟨9, f, 0⟩
        | none => none

/-- What codes 1 to 3 leave, for codes 6 to 9. -/
structure Ok6 (d : FD) : Prop where
  ok3 : Ok3 d
  par0 : 0 ≤ d.params
  par1 : d.params ≤ d.nv
  one : ∀ n, n < d.nn → (d.nd n).kind = 26 ∨ (d.nd n).kind = 27 ∨ (d.nd n).kind = 36 → 0 < (d.nd n).nr
  lps : ∀ n, n < d.nn → (d.nd n).kind = 6 ∨ (d.nd n).kind = 7 ∨ (d.nd n).kind = 8 → 0 < (d.nd n).nk

theorem third_7 {u : UD} {x : Flt} (h6 : fltOf 6 (findF (bad6 u) 0 u.nf) = none) (h7 : fltOf 7 (findF (fun f => findN (bad7 (u.fn f)) 0 (u.fn f).nn) 0 u.nf) = some x) : thirdB u = some x := by
  unfold thirdB; rw [h6]; simp only; rw [h7]
theorem third_8 {u : UD} {f n : Nat} {md : Nat → Bool} (h6 : fltOf 6 (findF (bad6 u) 0 u.nf) = none) (h7 : fltOf 7 (findF (fun f => findN (bad7 (u.fn f)) 0 (u.fn f).nn) 0 u.nf) = none) (h8 : find8 u (fun _ => false) 0 u.nf = (some (f, n), md)) : thirdB u = some ⟨8, f, n⟩ := by
  unfold thirdB; rw [h6]; simp only; rw [h7]; simp only; rw [h8]
theorem third_9 {u : UD} {md : Nat → Bool} (h6 : fltOf 6 (findF (bad6 u) 0 u.nf) = none) (h7 : fltOf 7 (findF (fun f => findN (bad7 (u.fn f)) 0 (u.fn f).nn) 0 u.nf) = none) (h8 : find8 u (fun _ => false) 0 u.nf = (none, md)) : thirdB u = (match findN (fun f => !md f) 1 (u.nf - 1) with | some f => some ⟨9, f, 0⟩ | none => none) := by
  unfold thirdB; rw [h6]; simp only; rw [h7]; simp only; rw [h8]

theorem findF_none {q : Nat → Option Nat} : ∀ {m f : Nat}, findF q f m = none → ∀ j, f ≤ j → j < f + m → q j = none
  | 0, f, _, j, h1, h2 => by omega
  | m + 1, f, h, j, h1, h2 => by
    rw [findF] at h
    cases hq : q f with
    | some n => rw [hq] at h; cases h
    | none =>
      rw [hq] at h
      by_cases e : f = j
      · subst e; exact hq
      · exact findF_none h j (by omega) (by omega)
theorem findN_none {p : Nat → Bool} : ∀ {m i : Nat}, findN p i m = none → ∀ j, i ≤ j → j < i + m → p j = false
  | 0, i, _, j, h1, h2 => by omega
  | m + 1, i, h, j, h1, h2 => by
    rw [findN] at h
    cases hp : p i with
    | true => rw [hp] at h; cases h
    | false =>
      rw [hp] at h
      by_cases e : i = j
      · subst e; exact hp
      · exact findN_none h j (by omega) (by omega)
theorem fltOf_none {c : Int} {o : Option (Nat × Nat)} (h : fltOf c o = none) : o = none := by
  cases o with
  | none => rfl
  | some x => cases h
theorem find6_none {u : UD} {d : FD} {par : Nat → Int} : ∀ {m n : Nat} {seen : Nat → Bool}, find6 u d par seen n m = none → ∀ j, n ≤ j → j < n + m → ∃ sn, (refsB u d par j sn).1 = true
  | 0, n, _, _, j, h1, h2 => by omega
  | m + 1, n, seen, h, j, h1, h2 => by
    rw [find6] at h
    by_cases hr : (refsB u d par n seen).1 = true
    · rw [if_pos hr] at h
      by_cases e : n = j
      · subst e; exact ⟨seen, hr⟩
      · exact find6_none h j (by omega) (by omega)
    · rw [if_neg hr] at h; cases h
/-- Code 6 has found nothing: a NFn names a fn. -/
theorem six_fn {u : UD} (h6 : fltOf 6 (findF (bad6 u) 0 u.nf) = none) {f n : Nat} (hf : f < u.nf) (hn : n < (u.fn f).nn) (hk : ((u.fn f).nd n).kind = 36) :
    0 ≤ ((u.fn f).nd n).rf 0 ∧ ((u.fn f).nd n).rf 0 < u.nf := by
  have h := findF_none (fltOf_none h6) f (Nat.zero_le _) (by omega)
  obtain ⟨sn, hs⟩ := find6_none (show find6 _ _ _ _ _ _ = none from h) n (Nat.zero_le _) (by omega)
  have e : refsB u (u.fn f) (parE (u.fn f).nd (u.fn f).nn) n sn = (decide (0 ≤ ((u.fn f).nd n).rf 0) && decide (((u.fn f).nd n).rf 0 < u.nf), sn) := by
    unfold refsB
    simp only
    rw [if_neg (by omega), if_pos hk]
  rw [e] at hs
  simpa using hs
end Go.Proofs.YtjebijnndfkinaaGreat

namespace Go.Proofs.YtjebijnndfkinaaGreat
open Go.RowKit

theorem first_none {u : UD} (h : firstB u = none) : sizeBad u = false ∧ headsBad u = none ∧ shapesBad u = none := by
  unfold firstB at h
  cases hs : sizeBad u with
  | true => rw [hs] at h; cases h
  | false =>
    rw [hs] at h
    simp only [Bool.false_eq_true, if_false] at h
    cases hh : headsBad u with
    | some x => rw [hh] at h; cases h
    | none =>
      rw [hh] at h
      exact ⟨rfl, rfl, fltOf_none h⟩

theorem head_ok {u : UD} (h : headsBad u = none) {f : Nat} (hf : f < u.nf) : headB (u.fn f) f = true := by
  have := findF_none h f (Nat.zero_le _) (by omega)
  by_cases e : headB (u.fn f) f = true
  · exact e
  · simp [e] at this

theorem shape_ok {u : UD} (h : shapesBad u = none) {f n : Nat} (hf : f < u.nf) (hn : n < (u.fn f).nn) : shapeB (u.fn f).nd n = true := by
  have := findN_none (findF_none h f (Nat.zero_le _) (by omega)) n (Nat.zero_le _) (by omega)
  simpa using this

theorem bare_nr {d : ND} {a b c e : Bool} {r : Int} (h : bareB d a b c e r = true) : (d.nr : Int) = r := by
  simp only [bareB, Bool.and_eq_true] at h
  simpa using h.2

theorem shape_kids {nd : Nat → ND} {n : Nat} (h : shapeB nd n = true) : ∀ j, j < (nd n).nk → 0 ≤ (nd n).kd j ∧ (nd n).kd j < n := by
  simp only [shapeB, Bool.and_eq_true] at h
  intro j hj
  have := (allB_iff _ _ _).1 h.1.2 j (Nat.zero_le _) (by omega)
  simpa [kidsB] using this

theorem shape_expr {nd : Nat → ND} {n : Nat} (h : shapeB nd n = true) (hs : statB (nd n).kind = false) : (nd n).line = 0 ∧ exprnB nd n = true := by
  simp only [shapeB, Bool.and_eq_true] at h
  have := h.2
  rw [hs] at this
  simpa using this
theorem shape_stmt {nd : Nat → ND} {n : Nat} (h : shapeB nd n = true) (hs : statB (nd n).kind = true) : 1 ≤ (nd n).line ∧ (nd n).line ≤ 100000 ∧ stmtB nd n = true := by
  simp only [shapeB, Bool.and_eq_true] at h
  have := h.2
  rw [hs] at this
  simp only [if_true, Bool.and_eq_true, decide_eq_true_eq] at this
  exact ⟨this.1.1, this.1.2, this.2⟩

theorem one_ref {nd : Nat → ND} {n : Nat} (h : shapeB nd n = true) (hk : (nd n).kind = 26 ∨ (nd n).kind = 27 ∨ (nd n).kind = 36) : (nd n).nr = 1 := by
  have hs : statB (nd n).kind = false := by rcases hk with e | e | e <;> rw [e] <;> decide
  have he := (shape_expr h hs).2
  unfold exprnB at he
  rcases hk with e | e | e <;> simp [e] at he <;> have := bare_nr he.2 <;> omega

theorem loop_kids {nd : Nat → ND} {n : Nat} (h : shapeB nd n = true) (hk : (nd n).kind = 6 ∨ (nd n).kind = 7 ∨ (nd n).kind = 8) : 0 < (nd n).nk := by
  have hs : statB (nd n).kind = true := by rcases hk with e | e | e <;> rw [e] <;> decide
  have he := (shape_stmt h hs).2.2
  unfold stmtB at he
  rcases hk with e | e | e <;> simp [e] at he <;> omega

theorem ok6_of_first {u : UD} (h : firstB u = none) {f : Nat} (hf : f < u.nf) : Ok6 (u.fn f) := by
  obtain ⟨_, h2, h3⟩ := first_none h
  have hh := head_ok h2 hf
  simp only [headB, headA, Bool.and_eq_true, decide_eq_true_eq] at hh
  exact ⟨⟨hh.1.1.1.1.1.1, fun i hi => shape_kids (shape_ok h3 hf hi)⟩, hh.1.1.1.2, hh.1.1.2, fun n hn hk => by have := one_ref (shape_ok h3 hf hn) hk; omega, fun n hn hk => loop_kids (shape_ok h3 hf hn) hk⟩

theorem fltOf_code {c : Int} {o : Option (Nat × Nat)} {x : Flt} (h : fltOf c o = some x) : x.code = c := by
  cases o with
  | none => cases h
  | some y => obtain ⟨f, n⟩ := y; cases h; rfl
theorem first_code {u : UD} {x : Flt} (h : firstB u = some x) : x.code ≠ 0 := by
  unfold firstB at h
  split at h
  · cases h; decide
  · split at h
    · cases h; rename_i h2; rw [fltOf_code h2]; decide
    · rw [fltOf_code h]; decide
theorem second_code {u : UD} {x : Flt} (h : secondB u = some x) : x.code ≠ 0 := by
  unfold secondB at h
  split at h
  · cases h; rename_i h2; rw [fltOf_code h2]; decide
  · rw [fltOf_code h]; decide

def specB (u : UD) : Option Flt :=
  match firstB u with
  | some x => some x
  | none => match secondB u with
    | some x => some x
    | none => thirdB u
end Go.Proofs.YtjebijnndfkinaaGreat

namespace Go.Proofs.YtjebijnndfkinaaGreat
open Go.RowKit

def withinB (a b : Int) : Bool := decide (0 ≤ a) && decide (a < b)
def classB (c : Int) (k : Int) : Bool :=
  if c = 0 then statB k else if c = 1 then exprB k else if c = 2 then k == 1 else if c = 3 then (k == 1 || k == 5) else if c = 4 then k == 34 else if c = 5 then (k == 34 || k == 37) else if c = 6 then k == 23 else if c = 7 then targetB k else false
/-- The kind of a kid, as the program has it. -/
def kindK (nd : Nat → ND) (place : Nat) (kid : Int) : Int := if 0 ≤ kid ∧ kid < place then (nd kid.toNat).kind else 0
def usesB (d : ND) (o n f s r k : Bool) : Bool := (o || d.op == 0) && (n || d.num == 0) && (f || fzero d.flt) && (s || decide (d.str.toList = [])) && (r || (d.nr : Int) == 0) && (k || (d.nk : Int) == 0)
end Go.Proofs.YtjebijnndfkinaaGreat

namespace Go.Proofs.YtjebijnndfkinaaGreat
open Go.RowKit

theorem made_int (n i : Nat) (h : i < n) : (madeCells #[.int .i64 0] n)[i]? = some (.int .i64 0) := by
  simp [madeCells, h, Nat.mod_one]
/-- An array of bools. -/
def BArr (c : Array Value) (n : Nat) (f : Nat → Bool) : Prop := c.size = n ∧ ∀ k, k < n → c[k]? = some (.bool (f k))
theorem BArr.set {c : Array Value} {n : Nat} {f : Nat → Bool} (h : BArr c n f) (i : Nat) (v : Bool) : BArr (c.setIfInBounds i (.bool v)) n (fun k => if k = i then v else f k) := by
  refine ⟨by simpa using h.1, fun k hk => ?_⟩
  by_cases e : i = k
  · subst e; simp [h.1, hk]
  · simp only [if_neg (fun x : k = i => e x.symm)]
    have := h.2 k hk
    simp only [Array.getElem?_setIfInBounds, e, if_false]; exact this

theorem info_bool : (Tryz.prog.info? 4).map (fun i => (i.zero, i.size, i.bytes)) = some (some (.bool false), 1, 1) := by kernel_rfl
theorem run_make_bools (n : Nat) (hn : n ≤ 1048576) (w : World) :
    (Instr.makeSlice 72 (.int .i64 n) (.int .i64 n)).run Tryz.prog w = .ok (.slice (some ⟨w.heap.size, 0, none⟩) n n) (w.alloc (.cells (madeCells #[.bool false] n) 4)) := by
  obtain ⟨i0, hi, hz0, hz1, hz2⟩ := info_parts info_bool
  have := run_make (P := Tryz.prog) w 72 4 i0 _ Tryz.underlying72 hi hz0 .i64 .i64 n n (by omega) (by omega) (by rw [hz2]; omega) (by omega)
  simpa [hz1, Value.cells] using this
theorem made_bool (n : Nat) : BArr (madeCells #[.bool false] n) n (fun _ => false) := ⟨size_madeCells _ _, fun k hk => by simp [madeCells, hk, Nat.mod_one]⟩
theorem BArr.congr {c : Array Value} {n : Nat} {f g : Nat → Bool} (h : BArr c n f) (e : ∀ k, k < n → g k = f k) : BArr c n g := ⟨h.1, fun k hk => by rw [e k hk]; exact h.2 k hk⟩
end Go.Proofs.YtjebijnndfkinaaGreat

namespace Go.Proofs.YtjebijnndfkinaaGreat
open Go.RowKit
attribute [local go_sem] run_store_float

set_option maxHeartbeats 400000 in
theorem within_any (a b : Int) (w : World) : Calls Tryz.prog 43 #[.int .i64 a, .int .i64 b] w fun e w' => e = .returned (.bool (withinB a b)) ∧ w' = w := by
  go_enter Tryz.func43, Tryz.ntmps43
  go_wp2
  all_goals go_ret
  all_goals exact ⟨ret_bool (by simp [withinB, *]; try omega), rfl⟩

set_option maxHeartbeats 400000 in
theorem isStatement_any (k : Int) (w : World) : Calls Tryz.prog 58 #[.int .i64 k] w fun e w' => e = .returned (.bool (statB k)) ∧ w' = w := by
  go_enter Tryz.func58, Tryz.ntmps58
  go_wp2
  all_goals go_ret
  all_goals exact ⟨ret_bool (by simp [statB, *]; try omega), rfl⟩

set_option maxHeartbeats 1000000 in
theorem has_any (c k : Int) (w : World) (h0 : 0 ≤ c) (h7 : c ≤ 7) : Calls Tryz.prog 107 #[.int .i64 c, .int .i64 k] w fun e w' => e = .returned (.bool (classB c k)) ∧ w' = w := by
  have cs : c = 0 ∨ c = 1 ∨ c = 2 ∨ c = 3 ∨ c = 4 ∨ c = 5 ∨ c = 6 ∨ c = 7 := by omega
  clear h0 h7
  rcases cs with rfl | rfl | rfl | rfl | rfl | rfl | rfl | rfl
  · go_enter Tryz.func107, Tryz.ntmps107
    go_wp2_with fail
    refine (isStatement_any _ _).mono ?_
    rintro e w1 ⟨rfl, rfl⟩
    go_wp2_with fail
    go_ret
    exact ⟨ret_bool (by simp [classB]), rfl⟩
  all_goals
    go_enter Tryz.func107, Tryz.ntmps107
    go_wp2
    all_goals go_ret
    all_goals exact ⟨ret_bool (by simp [classB, exprB, targetB, *]; try omega), rfl⟩

set_option maxHeartbeats 400000 in
theorem hasAll_any (c : Int) (a : Option Addr) (n cp : Nat) (f : Nat → Int) (w : World) (h0 : 0 ≤ c) (h7 : c ≤ 7) (hn : n ≤ 1048576) (ha : IntsAt w a n f) :
    Calls Tryz.prog 106 #[.int .i64 c, .slice a n cp] w fun e w' => e = .returned (.bool (allB (fun i => classB c (f i)) 0 n)) ∧ w' = w := by
  go_enter Tryz.func106, Tryz.ntmps106
  go_wp2_with fail
  go_loop [9] (fun i => ∃ k : Nat, k ≤ n ∧ i = .int .i64 k ∧ allB (fun i => classB c (f i)) 0 n = allB (fun i => classB c (f i)) k (n - k)) (fun i => n - (intOf i).toNat)
  case atStart => exact ⟨0, Nat.zero_le _, rfl, rfl⟩
  case round =>
    obtain ⟨k, hk, rfl, hr⟩ := hrel
    have HR : Hid _ := hr
    clear hr
    by_cases hlt : k < n
    · obtain ⟨b, off, rfl, hc⟩ := ha (by omega)
      have hck := hc k hlt
      clear hc
      have hst : Hid (allB (fun i => classB c (f i)) k (n - k) = (classB c (f k) && allB (fun i => classB c (f i)) (k + 1) (n - (k + 1)))) := by
        show _ = _
        rw [show n - k = (n - (k + 1)) + 1 from by omega]; rfl
      go_wp2_with fail
      refine (has_any _ _ _ h0 h7).mono ?_
      rintro e w1 ⟨rfl, rfl⟩
      cases hx : classB c (f k)
      · go_wp2_with fail
        go_ret
        exact ⟨ret_bool (by rw [HR.out, hst.out, hx]; rfl), rfl⟩
      · go_wp2_with fail
        go_round
        case rel => exact ⟨k + 1, by omega, by go_num, by rw [HR.out, hst.out, hx]; rfl⟩
        case measure => simp [intOf]; omega
    · have hst : Hid (allB (fun i => classB c (f i)) k (n - k) = true) := by
        show _ = _
        rw [show n - k = 0 from by omega]; rfl
      go_wp2_with fail
      go_ret
      exact ⟨ret_bool (by rw [HR.out, hst.out]), rfl⟩

set_option maxHeartbeats 1000000 in
theorem kindsOf_any (a : Option Addr) (n : Nat) (nm : Nat → NM) (pl pc : Nat) (ka : Option Addr) (nk kc : Nat) (kd : Nat → Int) (w : World) (hn : n ≤ 1048576) (hpl : pl ≤ n) (hk : nk ≤ 1048576) (ha : NodesAt w a n nm) (hka : IntsAt w ka nk kd) :
    Calls Tryz.prog 57 #[.slice a pl pc, .slice ka nk kc] w fun e w' => ∃ a', e = .returned (.slice a' nk nk) ∧ Onw w w' ∧ IntsAt w' a' nk (fun i => kindK (ndOf nm) pl (kd i)) ∧ Frm w.heap.size a' := by
  have hmk := run_make_ints nk hk
  go_enter Tryz.func57, Tryz.ntmps57
  go_wp2_with fail
  clear hmk
  go_loopw [13] (fun i wr => ∃ k : Nat, k ≤ nk ∧ i = .int .i64 k ∧ Onw w wr ∧ ∃ cur, Blk wr w.heap.size 3 cur ∧ Arr cur nk (fun i => if i < k then kindK (ndOf nm) pl (kd i) else 0)) (fun i _ => nk - (intOf i).toNat)
  case atStart => exact ⟨0, Nat.zero_le _, rfl, Onw.alloc _ _, _, Blk.new _ _ _, size_madeCells _ _, fun k hk => by simp [made_int nk k hk]⟩
  case round =>
    obtain ⟨k, hkk, rfl, hb, cur, hbl, A⟩ := hrel
    by_cases hlt : k < nk
    · obtain ⟨kb, ko, rfl, hcc⟩ := hka.onw hb (by omega)
      have hki := hcc k hlt
      clear hcc
      by_cases hin : 0 ≤ kd k ∧ kd k < pl
      · obtain ⟨i1, i2⟩ := hin
        have hw : Hid (withinB (kd k) pl = true) := by show _ = _; simp [withinB]; omega
        obtain ⟨q, hq⟩ := Int.eq_ofNat_of_zero_le i1
        obtain ⟨b, off, rfl, hc⟩ := (ha.onw hb).1 (by omega)
        have c0 := (hc q (by omega)).c0
        have R : Hid (Arr (cur.setIfInBounds k (.int .i64 (nm q).kind)) nk (fun i => if i < k + 1 then kindK (ndOf nm) pl (kd i) else 0)) := by
          refine A.set k _ fun x hx => ?_
          by_cases e : x = k
          · subst e
            simp only [if_pos (Nat.lt_succ_self x), if_true]
            unfold kindK; rw [if_pos ⟨i1, i2⟩, hq]; rfl
          · by_cases e2 : x < k
            · simp [e, e2, Nat.lt_succ_of_lt e2]
            · simp [e, e2]; intro h; omega
        have hwq : Hid (withinB (q : Int) pl = true) := by show _ = _; rw [← hq]; exact hw.out
        rw [hq] at hki i2
        clear hc hq i1
        obtain ⟨x0, g0⟩ := hbl.some (j := k) (by rw [A.1]; exact hlt)
        have hf := hbl.free
        go_wp2_with fail
        refine (within_any _ _ _).mono ?_
        rintro e w1 ⟨rfl, rfl⟩
        rw [hwq.out]
        go_wp2_with fail
        go_roundw
        case rel => exact ⟨k + 1, by omega, by go_num, below_set hb (Nat.le_refl _) _, _, hbl.set k _, R.out⟩
        case measure => simp [intOf]; omega
      · have hw : Hid (withinB (kd k) pl = false) := by
          show _ = _
          rw [← Bool.not_eq_true]; simp [withinB]; omega
        have R : Hid (Arr cur nk (fun i => if i < k + 1 then kindK (ndOf nm) pl (kd i) else 0)) := by
          refine ⟨A.1, fun x hx => ?_⟩
          rw [A.2 x hx]
          by_cases e : x = k
          · subst e
            have : kindK (ndOf nm) pl (kd x) = 0 := by unfold kindK; rw [if_neg hin]
            simp [this]
          · by_cases e2 : x < k
            · simp [e2, Nat.lt_succ_of_lt e2]
            · have : ¬ x < k + 1 := by omega
              simp [e2, this]
        go_wp2_with fail
        refine (within_any _ _ _).mono ?_
        rintro e w1 ⟨rfl, rfl⟩
        rw [hw.out]
        go_wp2_with fail
        go_roundw
        case rel => exact ⟨k + 1, by omega, by go_num, hb, _, hbl, R.out⟩
        case measure => simp [intOf]; omega
    · go_wp2_with fail
      go_ret
      have : k = nk := by omega
      subst this
      refine ⟨_, rfl, hb, fun _ => ⟨_, 0, rfl, fun i hi => ?_⟩, fun x hx => by cases hx; exact Nat.le_refl _⟩
      rw [hbl.cell, Nat.zero_add, A.2 i hi]; simp [hi]
end Go.Proofs.YtjebijnndfkinaaGreat
