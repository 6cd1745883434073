import Derived.Test.YtnokgdgikdgaeaaP00
import Derived.Deep.QuietTactic
import Derived.BigQuiet
import Derived.BigRegion
import Derived.Deep.RegionWith
import Derived.Deep.RegionHeld3
import Derived.Deep.DeepCutAuto
namespace Go.Proofs.Ytnokgdgikdgaeaa
open Go.RowKit

theorem onw_drewN {w w1 : World} (h : Onw w w1) (n : Nat) : Onw w (w1.drewN n) := below_drewN h n

set_option maxHeartbeats 400000 in
theorem eqIntS_same (a a' : Option Addr) (n c c' : Nat) (f : Nat → Int) (w : World) (hn : n ≤ 1048576) (ha : IntsAt w a n f) (ha' : IntsAt w a' n f) :
    Calls Try.prog 54 #[.slice a n c, .slice a' n c'] w fun e w' => e = .returned (.bool true) ∧ Onw w w' := by
  go_enter Try.func54, Try.ntmps54
  go_wp2
  go_loopw [5] (fun i wr => ∃ k : Nat, k ≤ n ∧ i = .int .i64 k ∧ Onw w wr) (fun i _ => n - (intOf i).toNat)
  case atStart => exact ⟨0, Nat.zero_le _, rfl, Onw.refl _⟩
  case round =>
    obtain ⟨k, hk, rfl, hb⟩ := hrel
    by_cases hlt : k < n
    · obtain ⟨b, off, rfl, hc⟩ := ha.onw hb (by omega)
      obtain ⟨b', off', rfl, hc'⟩ := ha'.onw hb (by omega)
      have h1 := hc k hlt
      have h2 := hc' k hlt
      have hi : (k : Int) < (n : Int) := by omega
      have hi0 : (0 : Int) ≤ (k : Int) := by omega
      clear hc hc'
      go_wp2
      go_quiet (fail)
      go_wp2
      go_roundw
      case rel => exact ⟨k + 1, by omega, by go_num, onw_drewN hb _⟩
      case measure => simp [intOf]; omega
    · go_wp2
      go_ret
      exact ⟨rfl, hb⟩
set_option maxHeartbeats 400000 in
theorem eqStringS_same (a a' : Option Addr) (n c c' : Nat) (f : Nat → ByteArray) (w : World) (hn : n ≤ 1048576) (ha : StrsAt w a n f) (ha' : StrsAt w a' n f) :
    Calls Try.prog 53 #[.slice a n c, .slice a' n c'] w fun e w' => e = .returned (.bool true) ∧ Onw w w' := by
  go_enter Try.func53, Try.ntmps53
  go_wp2
  go_loopw [5] (fun i wr => ∃ k : Nat, k ≤ n ∧ i = .int .i64 k ∧ Onw w wr) (fun i _ => n - (intOf i).toNat)
  case atStart => exact ⟨0, Nat.zero_le _, rfl, Onw.refl _⟩
  case round =>
    obtain ⟨k, hk, rfl, hb⟩ := hrel
    by_cases hlt : k < n
    · obtain ⟨b, off, rfl, hc⟩ := ha.onw hb (by omega)
      obtain ⟨b', off', rfl, hc'⟩ := ha'.onw hb (by omega)
      have h1 := hc k hlt
      have h2 := hc' k hlt
      have hi : (k : Int) < (n : Int) := by omega
      have hi0 : (0 : Int) ≤ (k : Int) := by omega
      clear hc hc'
      go_wp2
      go_quiet (fail)
      go_wp2
      go_roundw
      case rel => exact ⟨k + 1, by omega, by go_num, onw_drewN hb _⟩
      case measure => simp [intOf]; omega
    · go_wp2
      go_ret
      exact ⟨rfl, hb⟩

theorem order_self (x : Nat) : FloatKind.f64.format.order x x = none ∨ FloatKind.f64.format.order x x = some .eq := by
  unfold Ieee.Format.order
  cases FloatKind.f64.format.read x with
  | nan => exact .inl rfl
  | infinity s => exact .inr (by simp [Ieee.Datum.order])
  | number s m i => exact .inr (by simp [Ieee.Datum.order])

theorem read_one : ∃ m i, m ≠ 0 ∧ FloatKind.f64.format.read 4607182418800017408 = .number false m i := ⟨4503599627370496, -52, by decide, by kernel_rfl⟩

theorem div_one (x : Nat) (h : FloatKind.f64.format.order x x = some .eq) : ∃ r, floatBits .quo .f64 4607182418800017408 x = some r := by
  obtain ⟨m, i, hm, ho⟩ := read_one
  show ∃ r, FloatKind.f64.format.div 4607182418800017408 x = some r
  unfold Ieee.Format.div
  rw [ho]
  unfold Ieee.Format.order at h
  cases hx : FloatKind.f64.format.read x with
  | nan => rw [hx] at h; simp [Ieee.Datum.order] at h
  | infinity s => exact ⟨_, rfl⟩
  | number s n j =>
    simp only [Ieee.Datum.quotient, hm, if_false]
    split <;> exact ⟨_, rfl⟩

set_option maxHeartbeats 400000 in
theorem sameFloat_same (x : Nat) (w : World) :
    Calls Try.prog 52 #[.float .f64 x, .float .f64 x] w fun e w' => e = .returned (.bool true) ∧ Onw w w' := by
  rcases order_self x with h | h
  · have h1 : (FloatKind.f64.format.order x x != some .eq) = true := by rw [h]; rfl
    go_enter Try.func52, Try.ntmps52
    go_wp2
    go_ret
    exact ⟨rfl, Onw.refl _⟩
  · have h1 : (FloatKind.f64.format.order x x != some .eq) = false := by rw [h]; rfl
    have h2 : (FloatKind.f64.format.order x x == some .eq) = true := by rw [h]; rfl
    obtain ⟨r, hr⟩ := div_one x h
    have hd := fun w => run_float_arith (P := Try.prog) w .quo 37 .f64 4607182418800017408 x r hr
    clear h hr
    by_cases hz : (FloatKind.f64.format.order x 0 == some .eq) = true
    · go_enter Try.func52, Try.ntmps52
      go_wp2
      go_ret
      exact ⟨by simp, Onw.refl _⟩
    · have hz' : (FloatKind.f64.format.order x 0 == some .eq) = false := by simpa using hz
      clear hz
      go_enter Try.func52, Try.ntmps52
      go_wp2
      go_ret
      exact ⟨rfl, Onw.refl _⟩

set_option maxHeartbeats 1000000 in
theorem eqPart_same (d : PD) (ra ra' ka ka' : Option Addr) (rc rc' kc kc' : Nat) (w : World) (hr : d.nn ≤ 1048576) (hk : d.nk ≤ 1048576) (a1 : StrsAt w ra d.nn d.nm) (a2 : StrsAt w ra' d.nn d.nm) (a3 : IntsAt w ka d.nk d.kd) (a4 : IntsAt w ka' d.nk d.kd) :
    Calls Try.prog 30 #[.agg #[.int .i64 d.kind, .int .i64 d.frm, .int .i64 d.tto, .int .i64 d.line, .int .i64 d.op, .int .i64 d.num, .float .f64 d.flt, .string d.text, .slice ra d.nn rc, .slice ka d.nk kc], .agg #[.int .i64 d.kind, .int .i64 d.frm, .int .i64 d.tto, .int .i64 d.line, .int .i64 d.op, .int .i64 d.num, .float .f64 d.flt, .string d.text, .slice ra' d.nn rc', .slice ka' d.nk kc']] w fun e w' => e = .returned (.bool true) ∧ Onw w w' := by
  go_enter Try.func30, Try.ntmps30
  go_wp2_with fail
  refine (sameFloat_same _ _).mono ?_
  rintro e w1 ⟨rfl, hb1⟩
  have B0 := Blk.onw ((Onw.alloc _ _).trans hb1) (Blk.new w 41 _)
  have B1 := Blk.onw hb1 (Blk.new _ 41 _)
  have ob : Onw w w1 := ((Onw.alloc _ _).trans (Onw.alloc _ _)).trans hb1
  simp only [World.size_alloc] at B1
  clear hb1
  have c0 := B0.cell
  have c1 := B1.cell
  go_wp2_with fail
  refine (eqStringS_same _ _ _ _ _ d.nm _ hr (by exact a1.onw ob) (by exact a2.onw ob)).mono ?_
  rintro e w2 ⟨rfl, hb2⟩
  have ob2 := ob.trans hb2
  have D0 := B0.onw hb2
  have D1 := B1.onw hb2
  clear c0 c1 B0 B1 ob hb2
  have c0 := D0.cell
  have c1 := D1.cell
  go_wp2_with fail
  refine (eqIntS_same _ _ _ _ _ d.kd _ hk (by exact a3.onw ob2) (by exact a4.onw ob2)).mono ?_
  rintro e w3 ⟨rfl, hb3⟩
  clear c0 c1
  go_wp2_with fail
  go_ret
  exact ⟨rfl, ob2.trans hb3⟩

set_option maxHeartbeats 1000000 in
theorem eqPartS_same (a a' : Option Addr) (n c c' : Nat) (nm nm' : Nat → PM) (w : World) (hn : n ≤ 1048576) (hs : ∀ i, i < n → (nm i).nn ≤ 1048576 ∧ (nm i).nk ≤ 1048576) (hd : ∀ i, (nm' i).toPD = (nm i).toPD) (ha : PartsAt w a n nm) (ha' : PartsAt w a' n nm') :
    Calls Try.prog 19 #[.slice a n c, .slice a' n c'] w fun e w' => e = .returned (.bool true) ∧ Onw w w' := by
  have HD : Hid _ := hd
  clear hd
  go_enter Try.func19, Try.ntmps19
  go_wp2
  go_loopw [5] (fun i wr => ∃ k : Nat, k ≤ n ∧ i = .int .i64 k ∧ Onw w wr) (fun i _ => n - (intOf i).toNat)
  case atStart => exact ⟨0, Nat.zero_le _, rfl, Onw.refl _⟩
  case round =>
    obtain ⟨k, hk, rfl, hb⟩ := hrel
    by_cases hlt : k < n
    · obtain ⟨b, off, rfl, hc⟩ := (ha.onw hb).1 (by omega)
      obtain ⟨b', off', rfl, hc'⟩ := (ha'.onw hb).1 (by omega)
      obtain ⟨h0, h1, h2, h3, h4, h5, h6, h7, h8, h9⟩ := hc k hlt
      obtain ⟨g0, g1, g2, g3, g4, g5, g6, g7, g8, g9⟩ := hc' k hlt
      obtain ⟨s1, s2⟩ := hs k hlt
      have l1 := (ha.2 k hlt).onw hb
      have l2 := (ha'.2 k hlt).onw hb
      have e := HD.out k
      clear hc hc' hs
      generalize nm k = M at *
      generalize nm' k = M' at *
      obtain ⟨d, ra, rc, ka, kc⟩ := M
      obtain ⟨d', ra', rc', ka', kc'⟩ := M'
      simp only at e
      subst e
      have hi : (k : Int) < (n : Int) := by omega
      have hi0 : (0 : Int) ≤ (k : Int) := by omega
      go_wp2
      go_region_with (go_at_call 30; refine (eqPart_same d' ra ra' ka ka' rc rc' kc kc' _ s1 s2 (by exact l1.1.onw (Below.drew (Onw.refl _))) (by exact l2.1.onw (Below.drew (Onw.refl _))) (by exact l1.2.onw (Below.drew (Onw.refl _))) (by exact l2.2.onw (Below.drew (Onw.refl _)))).mono ?_; rintro e w1 ⟨rfl, hb1⟩)
      all_goals
        go_wp2
        go_roundw
        case rel => exact ⟨k + 1, by omega, by go_num, Onw.trans (Below.drew hb) hb1⟩
        case measure => simp [intOf]; omega
    · go_wp2
      go_ret
      exact ⟨rfl, hb⟩

set_option maxHeartbeats 1000000 in
theorem eqTree_same (m m' : TM) (w : World) (hn : m.np ≤ 1048576) (hs : ∀ i, i < m.np → (m.pm i).Small) (he : m'.toTD = m.toTD) (ha : m.At w) (ha' : m'.At w) :
    Calls Try.prog 9 #[.agg #[.slice m.pa m.np m.pc], .agg #[.slice m'.pa m'.np m'.pc]] w fun e w' => e = .returned (.bool true) ∧ Onw w w' := by
  obtain ⟨nf, fm, fa, fc⟩ := m
  obtain ⟨nf', fm', fa', fc'⟩ := m'
  simp only [TM.toTD, TD.mk.injEq] at he
  obtain ⟨rfl, hd⟩ := he
  have HD : Hid _ := fun i => congrFun hd i
  have HS : Hid _ := hs
  clear hd hs
  go_enter Try.func9, Try.ntmps9
  go_wp2_with fail
  refine (eqPartS_same _ _ _ _ _ fm fm' _ hn HS.out HD.out (by exact PartsAt.onw ((Onw.alloc _ _).trans (Onw.alloc _ _)) ha) (by exact PartsAt.onw ((Onw.alloc _ _).trans (Onw.alloc _ _)) ha')).mono ?_
  rintro e w1 ⟨rfl, hb1⟩
  go_wp2_with fail
  go_ret
  exact ⟨rfl, ((Onw.alloc _ _).trans (Onw.alloc _ _)).trans hb1⟩
end Go.Proofs.Ytnokgdgikdgaeaa

namespace Go.Proofs.Ytnokgdgikdgaeaa
open Go.RowKit
attribute [local go_sem] run_store_float

theorem ret_int {k : IntKind} {a b : Int} (h : a = b) : Ending.returned (.int k a) = .returned (.int k b) := by rw [h]
theorem ret_bool {a b : Bool} (h : a = b) : Ending.returned (.bool a) = .returned (.bool b) := by rw [h]
/-- p holds from i on, for m places. -/
def allB (p : Nat → Bool) (i : Nat) : Nat → Bool
  | 0 => true
  | m + 1 => p i && allB p (i + 1) m
def anyB (p : Nat → Bool) (i : Nat) : Nat → Bool
  | 0 => false
  | m + 1 => p i || anyB p (i + 1) m

def wordAt (i : Nat) : ByteArray :=
  if i = 0 then { data := #[97, 110, 100] } else
  if i = 1 then { data := #[98, 114, 101, 97, 107] } else
  if i = 2 then { data := #[99, 97, 116, 99, 104] } else
  if i = 3 then { data := #[99, 111, 110, 115, 116] } else
  if i = 4 then { data := #[100, 101, 102, 101, 114] } else
  if i = 5 then { data := #[101, 108, 105, 102] } else
  if i = 6 then { data := #[101, 108, 115, 101] } else
  if i = 7 then { data := #[102, 97, 108, 115, 101] } else
  if i = 8 then { data := #[102, 110] } else
  if i = 9 then { data := #[102, 111, 114] } else
  if i = 10 then { data := #[105, 102] } else
  if i = 11 then { data := #[105, 110] } else
  if i = 12 then { data := #[108, 101, 116] } else
  if i = 13 then { data := #[110, 101, 120, 116] } else
  if i = 14 then { data := #[110, 105, 108] } else
  if i = 15 then { data := #[110, 111, 116] } else
  if i = 16 then { data := #[111, 114] } else
  if i = 17 then { data := #[114, 101, 116, 117, 114, 110] } else
  if i = 18 then { data := #[116, 104, 114, 111, 119] } else
  if i = 19 then { data := #[116, 114, 117, 101] } else
  if i = 20 then { data := #[116, 114, 121] } else
  if i = 21 then { data := #[119, 104, 105, 108, 101] } else
  ByteArray.empty
/-- A text is one of the words. -/
def wordB (s : ByteArray) : Bool := anyB (fun i => (wordAt i).toList == s.toList) 0 22

set_option maxHeartbeats 1000000 in
theorem l6words_any (w : World) : Calls Try.prog 56 #[] w fun e w' => ∃ b, e = .returned (.slice (some ⟨b, 0, none⟩) 22 22) ∧ Onw w w' ∧ ∀ i, i < 22 → w'.cell? ⟨b, i, none⟩ = some (.string (wordAt i)) := by
  go_enter Try.func56, Try.ntmps56
  go_wp2
  go_ret
  refine ⟨w.heap.size, rfl, Onw.alloc _ _, fun i hi => ?_⟩
  rw [(Blk.new w 9 _).cell]
  have cs : i = 0 ∨ i = 1 ∨ i = 2 ∨ i = 3 ∨ i = 4 ∨ i = 5 ∨ i = 6 ∨ i = 7 ∨ i = 8 ∨ i = 9 ∨ i = 10 ∨ i = 11 ∨ i = 12 ∨ i = 13 ∨ i = 14 ∨ i = 15 ∨ i = 16 ∨ i = 17 ∨ i = 18 ∨ i = 19 ∨ i = 20 ∨ i = 21 := by omega
  rcases cs with rfl | rfl | rfl | rfl | rfl | rfl | rfl | rfl | rfl | rfl | rfl | rfl | rfl | rfl | rfl | rfl | rfl | rfl | rfl | rfl | rfl | rfl <;> rfl

def byteI (s : ByteArray) (k : Nat) : Int := if h : k < s.size then ((s[k]'h).toNat : Int) else 0
def letterB (x : Int) : Bool := decide (97 ≤ x) && decide (x ≤ 122) || decide (65 ≤ x) && decide (x ≤ 90) || x == 95
def digitB (x : Int) : Bool := decide (48 ≤ x) && decide (x ≤ 57)
/-- A text is a name. -/
def nameB (s : ByteArray) : Bool := decide (1 ≤ s.size) && decide (s.size ≤ 40) && allB (fun i => letterB (byteI s i) || (!((i : Int) == 0) && digitB (byteI s i))) 0 s.size && !wordB s

set_option maxHeartbeats 2000000 in
theorem l6nameok_any (s : ByteArray) (w : World) (hs : s.size ≤ 1048576) : Calls Try.prog 38 #[.string s] w fun e w' => e = .returned (.bool (nameB s)) ∧ Onw w w' := by
  by_cases h0 : s.size = 0
  · have e0 : ((s.size : Int) == 0) = true := by simp [h0]
    have fin : Hid (nameB s = false) := by show _ = _; simp [nameB, h0]
    clear h0
    go_enter Try.func38, Try.ntmps38
    go_wp2_with fail
    go_ret
    exact ⟨ret_bool fin.out.symm, Onw.refl _⟩
  · have e0 : ((s.size : Int) == 0) = false := by rw [beq_eq_false_iff_ne]; omega
    by_cases h40 : s.size ≤ 40
    · have e1 : decide ((40 : Int) < (s.size : Int)) = false := decide_eq_false (by omega)
      have fin : Hid (nameB s = (allB (fun i => letterB (byteI s i) || (!((i : Int) == 0) && digitB (byteI s i))) 0 s.size && !wordB s)) := by
        show _ = _; unfold nameB
        rw [decide_eq_true (show 1 ≤ s.size by omega), decide_eq_true h40]; simp
      clear h0
      go_enter Try.func38, Try.ntmps38
      go_wp2_with fail
      go_loopw [3] (fun i wr => ∃ k : Nat, k ≤ s.size ∧ i = .int .i64 k ∧ wr = w ∧ allB (fun i => letterB (byteI s i) || (!((i : Int) == 0) && digitB (byteI s i))) 0 s.size = allB (fun i => letterB (byteI s i) || (!((i : Int) == 0) && digitB (byteI s i))) k (s.size - k)) (fun i _ => s.size - (intOf i).toNat)
      case atStart => exact ⟨0, Nat.zero_le _, rfl, rfl, rfl⟩
      case round =>
        obtain ⟨k, hk, rfl, rfl, hq⟩ := hrel
        have HQ : Hid _ := hq
        clear hq
        by_cases hlt : k < s.size
        · have st : Hid (allB (fun i => letterB (byteI s i) || (!((i : Int) == 0) && digitB (byteI s i))) k (s.size - k) = ((letterB (byteI s k) || (!((k : Int) == 0) && digitB (byteI s k))) && allB (fun i => letterB (byteI s i) || (!((i : Int) == 0) && digitB (byteI s i))) (k + 1) (s.size - (k + 1)))) := by
            show _ = _
            rw [show s.size - k = (s.size - (k + 1)) + 1 from by omega]; rfl
          have eb : ∀ h : k < s.size, ((s[k]'h).toNat : Int) = byteI s k := fun h => by unfold byteI; rw [dif_pos h]
          have hx0 : 0 ≤ byteI s k := by unfold byteI; split <;> omega
          generalize byteI s k = x at *
          have rg : (x < 48) ∨ (48 ≤ x ∧ x ≤ 57) ∨ (58 ≤ x ∧ x ≤ 64) ∨ (65 ≤ x ∧ x ≤ 90) ∨ (91 ≤ x ∧ x ≤ 94) ∨ (x = 95) ∨ (x = 96) ∨ (97 ≤ x ∧ x ≤ 122) ∨ (123 ≤ x) := by omega
          have kz : ((k : Int) == 0) = true ∨ ((k : Int) == 0) = false := by cases ((k : Int) == 0) <;> simp
          rcases rg with rg | rg | rg | rg | rg | rg | rg | rg | rg
          · have f0 : decide ((97 : Int) ≤ x) = false := decide_eq_false (by omega)
            have f1 : decide (x ≤ 122) = true := decide_eq_true (by omega)
            have f2 : decide ((65 : Int) ≤ x) = false := decide_eq_false (by omega)
            have f3 : decide (x ≤ 90) = true := decide_eq_true (by omega)
            have f4 : decide (x < 48) = true := decide_eq_true (by omega)
            have f5 : decide ((57 : Int) < x) = false := decide_eq_false (by omega)
            have f6 : (x == 95) = false := by rw [beq_eq_false_iff_ne]; omega
            have el : Hid (letterB x = false) := by show _ = _; simp only [letterB, f0, f1, f2, f3, f6]; rfl
            have ed : Hid (digitB x = false) := by show _ = _; unfold digitB; simp; omega
            clear rg
            rcases kz with kz | kz
            · go_wp2_with fail
              go_ret
              exact ⟨ret_bool (by rw [fin.out, HQ.out, st.out, el.out, kz]; rfl), Onw.refl _⟩
            · go_wp2_with fail
              go_ret
              exact ⟨ret_bool (by rw [fin.out, HQ.out, st.out, el.out, ed.out, kz]; rfl), Onw.refl _⟩
          · have f0 : decide ((97 : Int) ≤ x) = false := decide_eq_false (by omega)
            have f1 : decide (x ≤ 122) = true := decide_eq_true (by omega)
            have f2 : decide ((65 : Int) ≤ x) = false := decide_eq_false (by omega)
            have f3 : decide (x ≤ 90) = true := decide_eq_true (by omega)
            have f4 : decide (x < 48) = false := decide_eq_false (by omega)
            have f5 : decide ((57 : Int) < x) = false := decide_eq_false (by omega)
            have f6 : (x == 95) = false := by rw [beq_eq_false_iff_ne]; omega
            have el : Hid (letterB x = false) := by show _ = _; simp only [letterB, f0, f1, f2, f3, f6]; rfl
            have ed : Hid (digitB x = true) := by show _ = _; unfold digitB; simp; omega
            clear rg
            rcases kz with kz | kz
            · go_wp2_with fail
              go_ret
              exact ⟨ret_bool (by rw [fin.out, HQ.out, st.out, el.out, kz]; rfl), Onw.refl _⟩
            · go_wp2_with fail
              go_roundw
              case rel => exact ⟨k + 1, by omega, by go_num, by first | rfl | trivial, by rw [HQ.out, st.out, el.out, ed.out, kz]; rfl⟩
              case measure => simp [intOf]; omega
          · have f0 : decide ((97 : Int) ≤ x) = false := decide_eq_false (by omega)
            have f1 : decide (x ≤ 122) = true := decide_eq_true (by omega)
            have f2 : decide ((65 : Int) ≤ x) = false := decide_eq_false (by omega)
            have f3 : decide (x ≤ 90) = true := decide_eq_true (by omega)
            have f4 : decide (x < 48) = false := decide_eq_false (by omega)
            have f5 : decide ((57 : Int) < x) = true := decide_eq_true (by omega)
            have f6 : (x == 95) = false := by rw [beq_eq_false_iff_ne]; omega
            have el : Hid (letterB x = false) := by show _ = _; simp only [letterB, f0, f1, f2, f3, f6]; rfl
            have ed : Hid (digitB x = false) := by show _ = _; unfold digitB; simp; omega
            clear rg
            rcases kz with kz | kz
            · go_wp2_with fail
              go_ret
              exact ⟨ret_bool (by rw [fin.out, HQ.out, st.out, el.out, kz]; rfl), Onw.refl _⟩
            · go_wp2_with fail
              go_ret
              exact ⟨ret_bool (by rw [fin.out, HQ.out, st.out, el.out, ed.out, kz]; rfl), Onw.refl _⟩
          · have f0 : decide ((97 : Int) ≤ x) = false := decide_eq_false (by omega)
            have f1 : decide (x ≤ 122) = true := decide_eq_true (by omega)
            have f2 : decide ((65 : Int) ≤ x) = true := decide_eq_true (by omega)
            have f3 : decide (x ≤ 90) = true := decide_eq_true (by omega)
            have f4 : decide (x < 48) = false := decide_eq_false (by omega)
            have f5 : decide ((57 : Int) < x) = true := decide_eq_true (by omega)
            have f6 : (x == 95) = false := by rw [beq_eq_false_iff_ne]; omega
            have el : Hid (letterB x = true) := by show _ = _; simp only [letterB, f0, f1, f2, f3, f6]; rfl
            have ed : Hid (digitB x = false) := by show _ = _; unfold digitB; simp; omega
            clear rg
            clear kz
            go_wp2_with fail
            go_roundw
            case rel => exact ⟨k + 1, by omega, by go_num, by first | rfl | trivial, by rw [HQ.out, st.out, el.out]; rfl⟩
            case measure => simp [intOf]; omega
          · have f0 : decide ((97 : Int) ≤ x) = false := decide_eq_false (by omega)
            have f1 : decide (x ≤ 122) = true := decide_eq_true (by omega)
            have f2 : decide ((65 : Int) ≤ x) = true := decide_eq_true (by omega)
            have f3 : decide (x ≤ 90) = false := decide_eq_false (by omega)
            have f4 : decide (x < 48) = false := decide_eq_false (by omega)
            have f5 : decide ((57 : Int) < x) = true := decide_eq_true (by omega)
            have f6 : (x == 95) = false := by rw [beq_eq_false_iff_ne]; omega
            have el : Hid (letterB x = false) := by show _ = _; simp only [letterB, f0, f1, f2, f3, f6]; rfl
            have ed : Hid (digitB x = false) := by show _ = _; unfold digitB; simp; omega
            clear rg
            rcases kz with kz | kz
            · go_wp2_with fail
              go_ret
              exact ⟨ret_bool (by rw [fin.out, HQ.out, st.out, el.out, kz]; rfl), Onw.refl _⟩
            · go_wp2_with fail
              go_ret
              exact ⟨ret_bool (by rw [fin.out, HQ.out, st.out, el.out, ed.out, kz]; rfl), Onw.refl _⟩
          · have f0 : decide ((97 : Int) ≤ x) = false := decide_eq_false (by omega)
            have f1 : decide (x ≤ 122) = true := decide_eq_true (by omega)
            have f2 : decide ((65 : Int) ≤ x) = true := decide_eq_true (by omega)
            have f3 : decide (x ≤ 90) = false := decide_eq_false (by omega)
            have f4 : decide (x < 48) = false := decide_eq_false (by omega)
            have f5 : decide ((57 : Int) < x) = true := decide_eq_true (by omega)
            have f6 : (x == 95) = true := by rw [beq_iff_eq]; omega
            have el : Hid (letterB x = true) := by show _ = _; simp only [letterB, f0, f1, f2, f3, f6]; rfl
            have ed : Hid (digitB x = false) := by show _ = _; unfold digitB; simp; omega
            clear rg
            clear kz
            go_wp2_with fail
            go_roundw
            case rel => exact ⟨k + 1, by omega, by go_num, by first | rfl | trivial, by rw [HQ.out, st.out, el.out]; rfl⟩
            case measure => simp [intOf]; omega
          · have f0 : decide ((97 : Int) ≤ x) = false := decide_eq_false (by omega)
            have f1 : decide (x ≤ 122) = true := decide_eq_true (by omega)
            have f2 : decide ((65 : Int) ≤ x) = true := decide_eq_true (by omega)
            have f3 : decide (x ≤ 90) = false := decide_eq_false (by omega)
            have f4 : decide (x < 48) = false := decide_eq_false (by omega)
            have f5 : decide ((57 : Int) < x) = true := decide_eq_true (by omega)
            have f6 : (x == 95) = false := by rw [beq_eq_false_iff_ne]; omega
            have el : Hid (letterB x = false) := by show _ = _; simp only [letterB, f0, f1, f2, f3, f6]; rfl
            have ed : Hid (digitB x = false) := by show _ = _; unfold digitB; simp; omega
            clear rg
            rcases kz with kz | kz
            · go_wp2_with fail
              go_ret
              exact ⟨ret_bool (by rw [fin.out, HQ.out, st.out, el.out, kz]; rfl), Onw.refl _⟩
            · go_wp2_with fail
              go_ret
              exact ⟨ret_bool (by rw [fin.out, HQ.out, st.out, el.out, ed.out, kz]; rfl), Onw.refl _⟩
          · have f0 : decide ((97 : Int) ≤ x) = true := decide_eq_true (by omega)
            have f1 : decide (x ≤ 122) = true := decide_eq_true (by omega)
            have f2 : decide ((65 : Int) ≤ x) = true := decide_eq_true (by omega)
            have f3 : decide (x ≤ 90) = false := decide_eq_false (by omega)
            have f4 : decide (x < 48) = false := decide_eq_false (by omega)
            have f5 : decide ((57 : Int) < x) = true := decide_eq_true (by omega)
            have f6 : (x == 95) = false := by rw [beq_eq_false_iff_ne]; omega
            have el : Hid (letterB x = true) := by show _ = _; simp only [letterB, f0, f1, f2, f3, f6]; rfl
            have ed : Hid (digitB x = false) := by show _ = _; unfold digitB; simp; omega
            clear rg
            clear kz
            go_wp2_with fail
            go_roundw
            case rel => exact ⟨k + 1, by omega, by go_num, by first | rfl | trivial, by rw [HQ.out, st.out, el.out]; rfl⟩
            case measure => simp [intOf]; omega
          · have f0 : decide ((97 : Int) ≤ x) = true := decide_eq_true (by omega)
            have f1 : decide (x ≤ 122) = false := decide_eq_false (by omega)
            have f2 : decide ((65 : Int) ≤ x) = true := decide_eq_true (by omega)
            have f3 : decide (x ≤ 90) = false := decide_eq_false (by omega)
            have f4 : decide (x < 48) = false := decide_eq_false (by omega)
            have f5 : decide ((57 : Int) < x) = true := decide_eq_true (by omega)
            have f6 : (x == 95) = false := by rw [beq_eq_false_iff_ne]; omega
            have el : Hid (letterB x = false) := by show _ = _; simp only [letterB, f0, f1, f2, f3, f6]; rfl
            have ed : Hid (digitB x = false) := by show _ = _; unfold digitB; simp; omega
            clear rg
            rcases kz with kz | kz
            · go_wp2_with fail
              go_ret
              exact ⟨ret_bool (by rw [fin.out, HQ.out, st.out, el.out, kz]; rfl), Onw.refl _⟩
            · go_wp2_with fail
              go_ret
              exact ⟨ret_bool (by rw [fin.out, HQ.out, st.out, el.out, ed.out, kz]; rfl), Onw.refl _⟩
        · have st : Hid (allB (fun i => letterB (byteI s i) || (!((i : Int) == 0) && digitB (byteI s i))) k (s.size - k) = true) := by
            show _ = _
            rw [show s.size - k = 0 from by omega]; rfl
          have fin2 : Hid (nameB s = !wordB s) := by show _ = _; rw [fin.out, HQ.out, st.out]; rfl
          go_wp2_with fail
          refine (l6words_any _).mono ?_
          rintro e w1 ⟨b, rfl, O1, hc⟩
          have HC : Hid _ := hc
          clear hc
          go_wp2_with fail
          go_loopw [59] (fun i wr => ∃ j : Nat, j ≤ 22 ∧ i = .int .i64 j ∧ wr = w1 ∧ wordB s = anyB (fun i => (wordAt i).toList == s.toList) j (22 - j)) (fun i _ => 22 - (intOf i).toNat)
          case atStart => exact ⟨0, Nat.zero_le _, rfl, rfl, rfl⟩
          case round =>
            obtain ⟨j, hj, rfl, hwr, hq⟩ := hrel
            subst hwr
            have HQ2 : Hid _ := hq
            clear hq
            by_cases hjt : j < 22
            · have c0 := HC.out j hjt
              have st2 : Hid (anyB (fun i => (wordAt i).toList == s.toList) j (22 - j) = (((wordAt j).toList == s.toList) || anyB (fun i => (wordAt i).toList == s.toList) (j + 1) (22 - (j + 1)))) := by
                show _ = _
                rw [show 22 - j = (22 - (j + 1)) + 1 from by omega]; rfl
              generalize wordAt j = W at *
              cases hx : (W.toList == s.toList)
              · go_wp2_with fail
                go_roundw
                case rel => exact ⟨j + 1, by omega, by go_num, by first | rfl | trivial, by rw [HQ2.out, st2.out, hx]; rfl⟩
                case measure => simp [intOf]; omega
              · go_wp2_with fail
                go_ret
                exact ⟨ret_bool (by rw [fin2.out, HQ2.out, st2.out, hx]; rfl), O1⟩
            · have st2 : Hid (anyB (fun i => (wordAt i).toList == s.toList) j (22 - j) = false) := by
                show _ = _
                rw [show 22 - j = 0 from by omega]; rfl
              go_wp2_with fail
              go_ret
              exact ⟨ret_bool (by rw [fin2.out, HQ2.out, st2.out]; rfl), O1⟩
    · have e1 : decide ((40 : Int) < (s.size : Int)) = true := decide_eq_true (by omega)
      have fin : Hid (nameB s = false) := by show _ = _; simp [nameB, h40]
      clear h0 h40
      go_enter Try.func38, Try.ntmps38
      go_wp2_with fail
      go_ret
      exact ⟨ret_bool fin.out.symm, Onw.refl _⟩
end Go.Proofs.Ytnokgdgikdgaeaa

namespace Go.Proofs.Ytnokgdgikdgaeaa
open Go.RowKit
attribute [local go_sem] run_store_float

def exprP (k : Int) : Bool := decide (20 ≤ k) && decide (k ≤ 37)
def statP (k : Int) : Bool := decide (1 ≤ k) && decide (k ≤ 16)
def targetP (k : Int) : Bool := k == 26 || k == 32 || k == 33
def fzero (x : Nat) : Bool := FloatKind.f64.format.order x 0 == some .eq
def fnum (x : Nat) : Bool := FloatKind.f64.format.order x x == some .eq
def bareP (d : PD) (o n t m : Bool) : Bool := (o || d.op == 0) && (n || d.num == 0) && fzero d.flt && (t || decide (d.text.toList = [])) && (m || (d.nn : Int) == 0)
def pdOf (pm : Nat → PM) : Nat → PD := fun i => (pm i).toPD
/-- The kind of a part's kid. -/
def kidP (pd : Nat → PD) (d : PD) (i : Nat) : Int := (pd (d.kd i).toNat).kind
def exprsP (pd : Nat → PD) (d : PD) (i k : Nat) : Bool := allB (fun j => exprP (kidP pd d j)) i (k - i)

set_option maxHeartbeats 400000 in
theorem l6expr_any (k : Int) (w : World) : Calls Try.prog 55 #[.int .i64 k] w fun e w' => e = .returned (.bool (exprP k)) ∧ w' = w := by
  go_enter Try.func55, Try.ntmps55
  go_wp2
  all_goals go_ret
  all_goals exact ⟨ret_bool (by simp [exprP, *]; try omega), rfl⟩
set_option maxHeartbeats 400000 in
theorem l6stat_any (k : Int) (w : World) : Calls Try.prog 21 #[.int .i64 k] w fun e w' => e = .returned (.bool (statP k)) ∧ w' = w := by
  go_enter Try.func21, Try.ntmps21
  go_wp2
  all_goals go_ret
  all_goals exact ⟨ret_bool (by simp [statP, *]; try omega), rfl⟩
set_option maxHeartbeats 400000 in
theorem l6target_any (k : Int) (w : World) : Calls Try.prog 37 #[.int .i64 k] w fun e w' => e = .returned (.bool (targetP k)) ∧ w' = w := by
  go_enter Try.func37, Try.ntmps37
  go_wp2
  all_goals go_ret
  all_goals exact ⟨ret_bool (by simp [targetP, *]), rfl⟩

set_option maxRecDepth 100000 in
set_option maxHeartbeats 4000000 in
theorem l6bare_any (m : PM) (w : World) (o n t k : Bool) (hc : (o, n, t, k) ∈ [(false, false, false, false), (false, false, false, true), (false, true, false, false), (false, false, true, false), (true, false, false, false), (true, false, false, true)]) :
    Calls Try.prog 34 #[.agg #[.int .i64 m.kind, .int .i64 m.frm, .int .i64 m.tto, .int .i64 m.line, .int .i64 m.op, .int .i64 m.num, .float .f64 m.flt, .string m.text, .slice m.na m.nn m.nc, .slice m.ka m.nk m.kc], .bool o, .bool n, .bool t, .bool k] w fun e w' => e = .returned (.bool (bareP m.toPD o n t k)) ∧ Onw w w' := by
  simp only [List.mem_cons, Prod.mk.injEq, List.mem_nil_iff, or_false] at hc
  rcases hc with ⟨rfl, rfl, rfl, rfl⟩ | ⟨rfl, rfl, rfl, rfl⟩ | ⟨rfl, rfl, rfl, rfl⟩ | ⟨rfl, rfl, rfl, rfl⟩ | ⟨rfl, rfl, rfl, rfl⟩ | ⟨rfl, rfl, rfl, rfl⟩
  all_goals
    go_enter Try.func34, Try.ntmps34
    go_wp2
    all_goals go_ret
    all_goals exact ⟨ret_bool (by simp_all [bareP, fzero]), Onw.alloc _ _⟩
end Go.Proofs.Ytnokgdgikdgaeaa

namespace Go.Proofs.Ytnokgdgikdgaeaa
open Go.RowKit
attribute [local go_sem] run_store_float

def withinB (a b : Int) : Bool := decide (0 ≤ a) && decide (a < b)
set_option maxHeartbeats 400000 in
theorem within_any (a b : Int) (w : World) : Calls Try.prog 41 #[.int .i64 a, .int .i64 b] w fun e w' => e = .returned (.bool (withinB a b)) ∧ w' = w := by
  go_enter Try.func41, Try.ntmps41
  go_wp2
  all_goals go_ret
  all_goals exact ⟨ret_bool (by simp [withinB, *]; try omega), rfl⟩

/-- The type that a part's row has. -/
def partT (kind : Int) : TypeId :=
  if kind = 1 then 81 else
  if kind = 2 then 84 else
  if kind = 3 then 85 else
  if kind = 4 then 87 else
  if kind = 5 then 88 else
  if kind = 6 then 90 else
  if kind = 16 then 90 else
  if kind = 7 then 91 else
  if kind = 8 then 92 else
  if kind = 9 then 93 else
  if kind = 10 then 94 else
  if kind = 11 then 95 else
  if kind = 12 then 95 else
  if kind = 13 then 96 else
  if kind = 14 then 97 else
  if kind = 15 then 98 else
  if kind = 20 then 100 else
  if kind = 21 then 100 else
  if kind = 22 then 100 else
  if kind = 23 then 102 else
  if kind = 24 then 103 else
  if kind = 25 then 105 else
  if kind = 26 then 106 else
  if kind = 27 then 101 else
  if kind = 28 then 107 else
  if kind = 29 then 107 else
  if kind = 30 then 108 else
  if kind = 31 then 109 else
  if kind = 32 then 110 else
  if kind = 33 then 111 else
  if kind = 34 then 112 else
  if kind = 35 then 113 else
  if kind = 36 then 114 else
  if kind = 37 then 116 else
  if kind = 40 then 119 else
  if kind = 41 then 120 else
  if kind = 42 then 121 else
  73
/-- Lists that are not overfull. -/
def slimP (d : PD) : Prop := d.nk ≤ 200 ∧ d.nn ≤ 200
def slimD (d : PD) : Decidable (slimP d) := @instDecidableAnd _ _ (d.nk.decLe 200) (d.nn.decLe 200)
def ptT (d : PD) : TypeId := @ite _ (slimP d) (slimD d) (partT d.kind) 73
def knP (d : PD) : Nat := @ite _ (slimP d) (slimD d) d.nk 0
/-- A piece: its part, its place, where its kids lie. -/
structure PX where
  m : PM
  p : Nat
  k : Option Addr
def PX.val (x : PX) : Value := .agg #[.int .i64 x.p, .int .i64 x.m.kind, .int .i64 x.m.frm, .int .i64 x.m.tto, .int .i64 x.m.line, .int .i64 x.m.op, .int .i64 x.m.num, .float .f64 x.m.flt, .string x.m.text, .slice x.m.na x.m.nn x.m.nc, .slice x.m.ka x.m.nk x.m.kc, .slice x.k (knP x.m.toPD) (knP x.m.toPD)]
def pv : Option PX → Value
  | none => .nilIface
  | some x => .iface (ptT x.m.toPD) x.val
/-- The bits of a row: what its part may stand as. -/
def roleK (k : Int) : Int :=
  if k = 1 then 7 else
  if k = 2 then 1 else
  if k = 3 then 1 else
  if k = 4 then 1 else
  if k = 5 then 1 else
  if k = 6 then 1 else
  if k = 16 then 1 else
  if k = 7 then 5 else
  if k = 8 then 1 else
  if k = 9 then 1 else
  if k = 10 then 1 else
  if k = 11 then 1 else
  if k = 12 then 1 else
  if k = 13 then 1 else
  if k = 14 then 1 else
  if k = 15 then 1 else
  if k = 20 then 24 else
  if k = 21 then 24 else
  if k = 22 then 24 else
  if k = 23 then 24 else
  if k = 24 then 24 else
  if k = 25 then 24 else
  if k = 26 then 152 else
  if k = 27 then 72 else
  if k = 28 then 24 else
  if k = 29 then 24 else
  if k = 30 then 24 else
  if k = 31 then 24 else
  if k = 32 then 152 else
  if k = 33 then 152 else
  if k = 34 then 120 else
  if k = 35 then 24 else
  if k = 36 then 280 else
  if k = 37 then 24 else
  if k = 40 then 512 else
  if k = 41 then 512 else
  if k = 42 then 512 else
  0
def roleP (d : PD) : Int := @ite _ (slimP d) (slimD d) (roleK d.kind) 0
def roleO : Option PX → Int
  | none => 0
  | some x => roleP x.m.toPD
def ValsAt (w : World) (a : Option Addr) (n : Nat) (f : Nat → Value) : Prop :=
  0 < n → ∃ b off, a = some ⟨b, off, none⟩ ∧ ∀ i, i < n → w.cell? ⟨b, off + i, none⟩ = some (f i)
theorem ValsAt.onw {w w' : World} (hb : Onw w w') {a n f} (h : ValsAt w a n f) : ValsAt w' a n f := fun h0 => by
  obtain ⟨b, off, ha, hc⟩ := h h0
  exact ⟨b, off, ha, fun i hi => cell_onw hb (hc i hi)⟩
/-- Every kind is one of these, or strange. -/
theorem kinds_all (k : Int) : k = 1 ∨ k = 2 ∨ k = 3 ∨ k = 4 ∨ k = 5 ∨ k = 6 ∨ k = 16 ∨ k = 7 ∨ k = 8 ∨ k = 9 ∨ k = 10 ∨ k = 11 ∨ k = 12 ∨ k = 13 ∨ k = 14 ∨ k = 15 ∨ k = 20 ∨ k = 21 ∨ k = 22 ∨ k = 23 ∨ k = 24 ∨ k = 25 ∨ k = 26 ∨ k = 27 ∨ k = 28 ∨ k = 29 ∨ k = 30 ∨ k = 31 ∨ k = 32 ∨ k = 33 ∨ k = 34 ∨ k = 35 ∨ k = 36 ∨ k = 37 ∨ k = 40 ∨ k = 41 ∨ k = 42 ∨ (partT k = 73 ∧ roleK k = 0 ∧ k ≠ 1 ∧ k ≠ 2 ∧ k ≠ 3 ∧ k ≠ 4 ∧ k ≠ 5 ∧ k ≠ 6 ∧ k ≠ 16 ∧ k ≠ 7 ∧ k ≠ 8 ∧ k ≠ 9 ∧ k ≠ 10 ∧ k ≠ 11 ∧ k ≠ 12 ∧ k ≠ 13 ∧ k ≠ 14 ∧ k ≠ 15 ∧ k ≠ 20 ∧ k ≠ 21 ∧ k ≠ 22 ∧ k ≠ 23 ∧ k ≠ 24 ∧ k ≠ 25 ∧ k ≠ 26 ∧ k ≠ 27 ∧ k ≠ 28 ∧ k ≠ 29 ∧ k ≠ 30 ∧ k ≠ 31 ∧ k ≠ 32 ∧ k ≠ 33 ∧ k ≠ 34 ∧ k ≠ 35 ∧ k ≠ 36 ∧ k ≠ 37 ∧ k ≠ 40 ∧ k ≠ 41 ∧ k ≠ 42) := by
  by_cases e1 : k = 1
  · simp [e1]
  by_cases e2 : k = 2
  · simp [e2]
  by_cases e3 : k = 3
  · simp [e3]
  by_cases e4 : k = 4
  · simp [e4]
  by_cases e5 : k = 5
  · simp [e5]
  by_cases e6 : k = 6
  · simp [e6]
  by_cases e16 : k = 16
  · simp [e16]
  by_cases e7 : k = 7
  · simp [e7]
  by_cases e8 : k = 8
  · simp [e8]
  by_cases e9 : k = 9
  · simp [e9]
  by_cases e10 : k = 10
  · simp [e10]
  by_cases e11 : k = 11
  · simp [e11]
  by_cases e12 : k = 12
  · simp [e12]
  by_cases e13 : k = 13
  · simp [e13]
  by_cases e14 : k = 14
  · simp [e14]
  by_cases e15 : k = 15
  · simp [e15]
  by_cases e20 : k = 20
  · simp [e20]
  by_cases e21 : k = 21
  · simp [e21]
  by_cases e22 : k = 22
  · simp [e22]
  by_cases e23 : k = 23
  · simp [e23]
  by_cases e24 : k = 24
  · simp [e24]
  by_cases e25 : k = 25
  · simp [e25]
  by_cases e26 : k = 26
  · simp [e26]
  by_cases e27 : k = 27
  · simp [e27]
  by_cases e28 : k = 28
  · simp [e28]
  by_cases e29 : k = 29
  · simp [e29]
  by_cases e30 : k = 30
  · simp [e30]
  by_cases e31 : k = 31
  · simp [e31]
  by_cases e32 : k = 32
  · simp [e32]
  by_cases e33 : k = 33
  · simp [e33]
  by_cases e34 : k = 34
  · simp [e34]
  by_cases e35 : k = 35
  · simp [e35]
  by_cases e36 : k = 36
  · simp [e36]
  by_cases e37 : k = 37
  · simp [e37]
  by_cases e40 : k = 40
  · simp [e40]
  by_cases e41 : k = 41
  · simp [e41]
  by_cases e42 : k = 42
  · simp [e42]
  refine Or.inr (Or.inr (Or.inr (Or.inr (Or.inr (Or.inr (Or.inr (Or.inr (Or.inr (Or.inr (Or.inr (Or.inr (Or.inr (Or.inr (Or.inr (Or.inr (Or.inr (Or.inr (Or.inr (Or.inr (Or.inr (Or.inr (Or.inr (Or.inr (Or.inr (Or.inr (Or.inr (Or.inr (Or.inr (Or.inr (Or.inr (Or.inr (Or.inr (Or.inr (Or.inr (Or.inr (Or.inr (⟨?_, ?_, e1, e2, e3, e4, e5, e6, e16, e7, e8, e9, e10, e11, e12, e13, e14, e15, e20, e21, e22, e23, e24, e25, e26, e27, e28, e29, e30, e31, e32, e33, e34, e35, e36, e37, e40, e41, e42⟩)))))))))))))))))))))))))))))))))))))
  · unfold partT; rw [if_neg e1, if_neg e2, if_neg e3, if_neg e4, if_neg e5, if_neg e6, if_neg e16, if_neg e7, if_neg e8, if_neg e9, if_neg e10, if_neg e11, if_neg e12, if_neg e13, if_neg e14, if_neg e15, if_neg e20, if_neg e21, if_neg e22, if_neg e23, if_neg e24, if_neg e25, if_neg e26, if_neg e27, if_neg e28, if_neg e29, if_neg e30, if_neg e31, if_neg e32, if_neg e33, if_neg e34, if_neg e35, if_neg e36, if_neg e37, if_neg e40, if_neg e41, if_neg e42]
  · unfold roleK; rw [if_neg e1, if_neg e2, if_neg e3, if_neg e4, if_neg e5, if_neg e6, if_neg e16, if_neg e7, if_neg e8, if_neg e9, if_neg e10, if_neg e11, if_neg e12, if_neg e13, if_neg e14, if_neg e15, if_neg e20, if_neg e21, if_neg e22, if_neg e23, if_neg e24, if_neg e25, if_neg e26, if_neg e27, if_neg e28, if_neg e29, if_neg e30, if_neg e31, if_neg e32, if_neg e33, if_neg e34, if_neg e35, if_neg e36, if_neg e37, if_neg e40, if_neg e41, if_neg e42]
end Go.Proofs.Ytnokgdgikdgaeaa
