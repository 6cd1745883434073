import Derived.Test.YtnokgdgikdgaeaaGreatP16
namespace Go.Proofs.YtnokgdgikdgaeaaGreat
open Go.RowKit
attribute [local go_sem] run_store_float

set_option linter.unusedSimpArgs false in
set_option maxRecDepth 100000 in
set_option maxHeartbeats 2000000 in
theorem l3expression_20 (a : Option Addr) (n c : Nat) (nm : Nat → NM) (at_ : Nat) (w : World) (hat : at_ < n) (hn : n ≤ 1048576) (hk : (nm at_).nk ≤ 1048576) (hkd : (nm at_).kind = 20) (ha : NodesAt w a n nm) :
    Calls Tryz.prog 52 #[.slice a n c, .int .i64 at_] w fun e w' => e = .returned (.bool (exprnB (ndOf nm) at_)) ∧ Onw w w' := by
  obtain ⟨b, off, rfl, hc⟩ := ha.1 (by omega)
  obtain ⟨c0, c1, c2, c3, c4, c5, c6, c7⟩ := hc at_ hat
  clear hc
  have e20 : ((nm at_).kind == 20) = true := by simp [hkd]
  have e0 : (((nm at_).nk : Int) == 0) = true ∨ (((nm at_).nk : Int) == 0) = false := by cases (((nm at_).nk : Int) == 0) <;> simp
  have fin : Hid (exprnB (ndOf nm) at_ = (((nm at_).nk : Int) == 0 && bareB (nm at_).toND false false false false 0)) := by
    show _ = _
    simp only [exprnB, ndOf, hkd]; rfl
  have HK : Hid _ := hkd
  clear hkd
  rcases e0 with e0 | e0
  all_goals
    go_enter Tryz.func52, Tryz.ntmps52
    go_wp2_with (first
      | (go_at_call 73; refine (l3exprs_any _ _ _ nm _ _ _ _ hat hn (by omega) (by omega) (by omega) (by exact ha.onw (Onw.alloc _ _))).mono ?_; rintro e w1 ⟨rfl, rfl⟩)
      | (go_at_call 71; refine (l3kid_any _ _ _ nm _ _ _ hat hn (by omega) (by exact ha.onw (Onw.alloc _ _))).mono ?_; rintro e w1 ⟨rfl, rfl⟩)
      | (go_at_call 75; refine (l3many_any _ _).mono ?_; rintro e w1 ⟨rfl, rfl⟩)
      | (go_at_call 72; refine (l3bare_any (nm at_) _ _ _ _ _ _ (by decide)).mono ?_; rintro e w1 ⟨rfl, rfl⟩))
    all_goals go_ret
    all_goals exact ⟨ret_bool (by rw [fin.out]; simp_all [spreadB, ndOf, fnum] <;> omega), by first | exact Onw.alloc _ _ | exact (Onw.alloc _ _).trans (Onw.alloc _ _)⟩

set_option linter.unusedSimpArgs false in
set_option maxRecDepth 100000 in
set_option maxHeartbeats 2000000 in
theorem l3expression_21 (a : Option Addr) (n c : Nat) (nm : Nat → NM) (at_ : Nat) (w : World) (hat : at_ < n) (hn : n ≤ 1048576) (hk : (nm at_).nk ≤ 1048576) (hkd : (nm at_).kind = 21) (ha : NodesAt w a n nm) :
    Calls Tryz.prog 52 #[.slice a n c, .int .i64 at_] w fun e w' => e = .returned (.bool (exprnB (ndOf nm) at_)) ∧ Onw w w' := by
  obtain ⟨b, off, rfl, hc⟩ := ha.1 (by omega)
  obtain ⟨c0, c1, c2, c3, c4, c5, c6, c7⟩ := hc at_ hat
  clear hc
  have e20 : ((nm at_).kind == 20) = false := by simp [hkd]
  have e21 : ((nm at_).kind == 21) = true := by simp [hkd]
  have e0 : (((nm at_).nk : Int) == 0) = true ∨ (((nm at_).nk : Int) == 0) = false := by cases (((nm at_).nk : Int) == 0) <;> simp
  have fin : Hid (exprnB (ndOf nm) at_ = (((nm at_).nk : Int) == 0 && bareB (nm at_).toND false false false false 0)) := by
    show _ = _
    simp only [exprnB, ndOf, hkd]; rfl
  have HK : Hid _ := hkd
  clear hkd
  rcases e0 with e0 | e0
  all_goals
    go_enter Tryz.func52, Tryz.ntmps52
    go_wp2_with (first
      | (go_at_call 73; refine (l3exprs_any _ _ _ nm _ _ _ _ hat hn (by omega) (by omega) (by omega) (by exact ha.onw (Onw.alloc _ _))).mono ?_; rintro e w1 ⟨rfl, rfl⟩)
      | (go_at_call 71; refine (l3kid_any _ _ _ nm _ _ _ hat hn (by omega) (by exact ha.onw (Onw.alloc _ _))).mono ?_; rintro e w1 ⟨rfl, rfl⟩)
      | (go_at_call 75; refine (l3many_any _ _).mono ?_; rintro e w1 ⟨rfl, rfl⟩)
      | (go_at_call 72; refine (l3bare_any (nm at_) _ _ _ _ _ _ (by decide)).mono ?_; rintro e w1 ⟨rfl, rfl⟩))
    all_goals go_ret
    all_goals exact ⟨ret_bool (by rw [fin.out]; simp_all [spreadB, ndOf, fnum] <;> omega), by first | exact Onw.alloc _ _ | exact (Onw.alloc _ _).trans (Onw.alloc _ _)⟩

set_option linter.unusedSimpArgs false in
set_option maxRecDepth 100000 in
set_option maxHeartbeats 2000000 in
theorem l3expression_22 (a : Option Addr) (n c : Nat) (nm : Nat → NM) (at_ : Nat) (w : World) (hat : at_ < n) (hn : n ≤ 1048576) (hk : (nm at_).nk ≤ 1048576) (hkd : (nm at_).kind = 22) (ha : NodesAt w a n nm) :
    Calls Tryz.prog 52 #[.slice a n c, .int .i64 at_] w fun e w' => e = .returned (.bool (exprnB (ndOf nm) at_)) ∧ Onw w w' := by
  obtain ⟨b, off, rfl, hc⟩ := ha.1 (by omega)
  obtain ⟨c0, c1, c2, c3, c4, c5, c6, c7⟩ := hc at_ hat
  clear hc
  have e20 : ((nm at_).kind == 20) = false := by simp [hkd]
  have e21 : ((nm at_).kind == 21) = false := by simp [hkd]
  have e22 : ((nm at_).kind == 22) = true := by simp [hkd]
  have e0 : (((nm at_).nk : Int) == 0) = true ∨ (((nm at_).nk : Int) == 0) = false := by cases (((nm at_).nk : Int) == 0) <;> simp
  have fin : Hid (exprnB (ndOf nm) at_ = (((nm at_).nk : Int) == 0 && bareB (nm at_).toND false false false false 0)) := by
    show _ = _
    simp only [exprnB, ndOf, hkd]; rfl
  have HK : Hid _ := hkd
  clear hkd
  rcases e0 with e0 | e0
  all_goals
    go_enter Tryz.func52, Tryz.ntmps52
    go_wp2_with (first
      | (go_at_call 73; refine (l3exprs_any _ _ _ nm _ _ _ _ hat hn (by omega) (by omega) (by omega) (by exact ha.onw (Onw.alloc _ _))).mono ?_; rintro e w1 ⟨rfl, rfl⟩)
      | (go_at_call 71; refine (l3kid_any _ _ _ nm _ _ _ hat hn (by omega) (by exact ha.onw (Onw.alloc _ _))).mono ?_; rintro e w1 ⟨rfl, rfl⟩)
      | (go_at_call 75; refine (l3many_any _ _).mono ?_; rintro e w1 ⟨rfl, rfl⟩)
      | (go_at_call 72; refine (l3bare_any (nm at_) _ _ _ _ _ _ (by decide)).mono ?_; rintro e w1 ⟨rfl, rfl⟩))
    all_goals go_ret
    all_goals exact ⟨ret_bool (by rw [fin.out]; simp_all [spreadB, ndOf, fnum] <;> omega), by first | exact Onw.alloc _ _ | exact (Onw.alloc _ _).trans (Onw.alloc _ _)⟩

set_option linter.unusedSimpArgs false in
set_option maxRecDepth 100000 in
set_option maxHeartbeats 2000000 in
theorem l3expression_37 (a : Option Addr) (n c : Nat) (nm : Nat → NM) (at_ : Nat) (w : World) (hat : at_ < n) (hn : n ≤ 1048576) (hk : (nm at_).nk ≤ 1048576) (hkd : (nm at_).kind = 37) (ha : NodesAt w a n nm) :
    Calls Tryz.prog 52 #[.slice a n c, .int .i64 at_] w fun e w' => e = .returned (.bool (exprnB (ndOf nm) at_)) ∧ Onw w w' := by
  obtain ⟨b, off, rfl, hc⟩ := ha.1 (by omega)
  obtain ⟨c0, c1, c2, c3, c4, c5, c6, c7⟩ := hc at_ hat
  clear hc
  have e20 : ((nm at_).kind == 20) = false := by simp [hkd]
  have e21 : ((nm at_).kind == 21) = false := by simp [hkd]
  have e22 : ((nm at_).kind == 22) = false := by simp [hkd]
  have e37 : ((nm at_).kind == 37) = true := by simp [hkd]
  have e0 : (((nm at_).nk : Int) == 0) = true ∨ (((nm at_).nk : Int) == 0) = false := by cases (((nm at_).nk : Int) == 0) <;> simp
  have fin : Hid (exprnB (ndOf nm) at_ = (((nm at_).nk : Int) == 0 && bareB (nm at_).toND false false false false 0)) := by
    show _ = _
    simp only [exprnB, ndOf, hkd]; rfl
  have HK : Hid _ := hkd
  clear hkd
  rcases e0 with e0 | e0
  all_goals
    go_enter Tryz.func52, Tryz.ntmps52
    go_wp2_with (first
      | (go_at_call 73; refine (l3exprs_any _ _ _ nm _ _ _ _ hat hn (by omega) (by omega) (by omega) (by exact ha.onw (Onw.alloc _ _))).mono ?_; rintro e w1 ⟨rfl, rfl⟩)
      | (go_at_call 71; refine (l3kid_any _ _ _ nm _ _ _ hat hn (by omega) (by exact ha.onw (Onw.alloc _ _))).mono ?_; rintro e w1 ⟨rfl, rfl⟩)
      | (go_at_call 75; refine (l3many_any _ _).mono ?_; rintro e w1 ⟨rfl, rfl⟩)
      | (go_at_call 72; refine (l3bare_any (nm at_) _ _ _ _ _ _ (by decide)).mono ?_; rintro e w1 ⟨rfl, rfl⟩))
    all_goals go_ret
    all_goals exact ⟨ret_bool (by rw [fin.out]; simp_all [spreadB, ndOf, fnum] <;> omega), by first | exact Onw.alloc _ _ | exact (Onw.alloc _ _).trans (Onw.alloc _ _)⟩

set_option linter.unusedSimpArgs false in
set_option maxRecDepth 100000 in
set_option maxHeartbeats 2000000 in
theorem l3expression_23 (a : Option Addr) (n c : Nat) (nm : Nat → NM) (at_ : Nat) (w : World) (hat : at_ < n) (hn : n ≤ 1048576) (hk : (nm at_).nk ≤ 1048576) (hkd : (nm at_).kind = 23) (ha : NodesAt w a n nm) :
    Calls Tryz.prog 52 #[.slice a n c, .int .i64 at_] w fun e w' => e = .returned (.bool (exprnB (ndOf nm) at_)) ∧ Onw w w' := by
  obtain ⟨b, off, rfl, hc⟩ := ha.1 (by omega)
  obtain ⟨c0, c1, c2, c3, c4, c5, c6, c7⟩ := hc at_ hat
  clear hc
  have e20 : ((nm at_).kind == 20) = false := by simp [hkd]
  have e21 : ((nm at_).kind == 21) = false := by simp [hkd]
  have e22 : ((nm at_).kind == 22) = false := by simp [hkd]
  have e37 : ((nm at_).kind == 37) = false := by simp [hkd]
  have e23 : ((nm at_).kind == 23) = true := by simp [hkd]
  have e0 : (((nm at_).nk : Int) == 0) = true ∨ (((nm at_).nk : Int) == 0) = false := by cases (((nm at_).nk : Int) == 0) <;> simp
  have fin : Hid (exprnB (ndOf nm) at_ = (((nm at_).nk : Int) == 0 && bareB (nm at_).toND false true false false 0)) := by
    show _ = _
    simp only [exprnB, ndOf, hkd]; rfl
  have HK : Hid _ := hkd
  clear hkd
  rcases e0 with e0 | e0
  all_goals
    go_enter Tryz.func52, Tryz.ntmps52
    go_wp2_with (first
      | (go_at_call 73; refine (l3exprs_any _ _ _ nm _ _ _ _ hat hn (by omega) (by omega) (by omega) (by exact ha.onw (Onw.alloc _ _))).mono ?_; rintro e w1 ⟨rfl, rfl⟩)
      | (go_at_call 71; refine (l3kid_any _ _ _ nm _ _ _ hat hn (by omega) (by exact ha.onw (Onw.alloc _ _))).mono ?_; rintro e w1 ⟨rfl, rfl⟩)
      | (go_at_call 75; refine (l3many_any _ _).mono ?_; rintro e w1 ⟨rfl, rfl⟩)
      | (go_at_call 72; refine (l3bare_any (nm at_) _ _ _ _ _ _ (by decide)).mono ?_; rintro e w1 ⟨rfl, rfl⟩))
    all_goals go_ret
    all_goals exact ⟨ret_bool (by rw [fin.out]; simp_all [spreadB, ndOf, fnum] <;> omega), by first | exact Onw.alloc _ _ | exact (Onw.alloc _ _).trans (Onw.alloc _ _)⟩
end Go.Proofs.YtnokgdgikdgaeaaGreat

namespace Go.Proofs.YtnokgdgikdgaeaaGreat
open Go.RowKit
attribute [local go_sem] run_store_float

set_option linter.unusedSimpArgs false in
set_option maxRecDepth 100000 in
set_option maxHeartbeats 2000000 in
theorem l3expression_24 (a : Option Addr) (n c : Nat) (nm : Nat → NM) (at_ : Nat) (w : World) (hat : at_ < n) (hn : n ≤ 1048576) (hk : (nm at_).nk ≤ 1048576) (hkd : (nm at_).kind = 24) (ha : NodesAt w a n nm) :
    Calls Tryz.prog 52 #[.slice a n c, .int .i64 at_] w fun e w' => e = .returned (.bool (exprnB (ndOf nm) at_)) ∧ Onw w w' := by
  obtain ⟨b, off, rfl, hc⟩ := ha.1 (by omega)
  obtain ⟨c0, c1, c2, c3, c4, c5, c6, c7⟩ := hc at_ hat
  clear hc
  have e20 : ((nm at_).kind == 20) = false := by simp [hkd]
  have e21 : ((nm at_).kind == 21) = false := by simp [hkd]
  have e22 : ((nm at_).kind == 22) = false := by simp [hkd]
  have e37 : ((nm at_).kind == 37) = false := by simp [hkd]
  have e23 : ((nm at_).kind == 23) = false := by simp [hkd]
  have e24 : ((nm at_).kind == 24) = true := by simp [hkd]
  have e0 : (((nm at_).nk : Int) == 0) = true ∨ (((nm at_).nk : Int) == 0) = false := by cases (((nm at_).nk : Int) == 0) <;> simp
  have fin : Hid (exprnB (ndOf nm) at_ = (((nm at_).nk : Int) == 0 && fnum (nm at_).flt && bareB (nm at_).toND false false true false 0)) := by
    show _ = _
    simp only [exprnB, ndOf, hkd]; rfl
  have HK : Hid _ := hkd
  clear hkd
  rcases e0 with e0 | e0
  all_goals
    go_enter Tryz.func52, Tryz.ntmps52
    go_wp2_with (first
      | (go_at_call 73; refine (l3exprs_any _ _ _ nm _ _ _ _ hat hn (by omega) (by omega) (by omega) (by exact ha.onw (Onw.alloc _ _))).mono ?_; rintro e w1 ⟨rfl, rfl⟩)
      | (go_at_call 71; refine (l3kid_any _ _ _ nm _ _ _ hat hn (by omega) (by exact ha.onw (Onw.alloc _ _))).mono ?_; rintro e w1 ⟨rfl, rfl⟩)
      | (go_at_call 75; refine (l3many_any _ _).mono ?_; rintro e w1 ⟨rfl, rfl⟩)
      | (go_at_call 72; refine (l3bare_any (nm at_) _ _ _ _ _ _ (by decide)).mono ?_; rintro e w1 ⟨rfl, rfl⟩))
    all_goals go_ret
    all_goals exact ⟨ret_bool (by rw [fin.out]; simp_all [spreadB, ndOf, fnum] <;> omega), by first | exact Onw.alloc _ _ | exact (Onw.alloc _ _).trans (Onw.alloc _ _)⟩

set_option linter.unusedSimpArgs false in
set_option maxRecDepth 100000 in
set_option maxHeartbeats 2000000 in
theorem l3expression_25 (a : Option Addr) (n c : Nat) (nm : Nat → NM) (at_ : Nat) (w : World) (hat : at_ < n) (hn : n ≤ 1048576) (hk : (nm at_).nk ≤ 1048576) (hkd : (nm at_).kind = 25) (ha : NodesAt w a n nm) :
    Calls Tryz.prog 52 #[.slice a n c, .int .i64 at_] w fun e w' => e = .returned (.bool (exprnB (ndOf nm) at_)) ∧ Onw w w' := by
  obtain ⟨b, off, rfl, hc⟩ := ha.1 (by omega)
  obtain ⟨c0, c1, c2, c3, c4, c5, c6, c7⟩ := hc at_ hat
  clear hc
  have e20 : ((nm at_).kind == 20) = false := by simp [hkd]
  have e21 : ((nm at_).kind == 21) = false := by simp [hkd]
  have e22 : ((nm at_).kind == 22) = false := by simp [hkd]
  have e37 : ((nm at_).kind == 37) = false := by simp [hkd]
  have e23 : ((nm at_).kind == 23) = false := by simp [hkd]
  have e24 : ((nm at_).kind == 24) = false := by simp [hkd]
  have e25 : ((nm at_).kind == 25) = true := by simp [hkd]
  have e0 : (((nm at_).nk : Int) == 0) = true ∨ (((nm at_).nk : Int) == 0) = false := by cases (((nm at_).nk : Int) == 0) <;> simp
  have fin : Hid (exprnB (ndOf nm) at_ = (((nm at_).nk : Int) == 0 && decide ((nm at_).str.size ≤ 4000) && bareB (nm at_).toND false false false true 0)) := by
    show _ = _
    simp only [exprnB, ndOf, hkd]; rfl
  have HK : Hid _ := hkd
  clear hkd
  rcases e0 with e0 | e0
  all_goals
    go_enter Tryz.func52, Tryz.ntmps52
    go_wp2_with (first
      | (go_at_call 73; refine (l3exprs_any _ _ _ nm _ _ _ _ hat hn (by omega) (by omega) (by omega) (by exact ha.onw (Onw.alloc _ _))).mono ?_; rintro e w1 ⟨rfl, rfl⟩)
      | (go_at_call 71; refine (l3kid_any _ _ _ nm _ _ _ hat hn (by omega) (by exact ha.onw (Onw.alloc _ _))).mono ?_; rintro e w1 ⟨rfl, rfl⟩)
      | (go_at_call 75; refine (l3many_any _ _).mono ?_; rintro e w1 ⟨rfl, rfl⟩)
      | (go_at_call 72; refine (l3bare_any (nm at_) _ _ _ _ _ _ (by decide)).mono ?_; rintro e w1 ⟨rfl, rfl⟩))
    all_goals go_ret
    all_goals exact ⟨ret_bool (by rw [fin.out]; simp_all [spreadB, ndOf, fnum] <;> omega), by first | exact Onw.alloc _ _ | exact (Onw.alloc _ _).trans (Onw.alloc _ _)⟩

set_option linter.unusedSimpArgs false in
set_option maxRecDepth 100000 in
set_option maxHeartbeats 2000000 in
theorem l3expression_26 (a : Option Addr) (n c : Nat) (nm : Nat → NM) (at_ : Nat) (w : World) (hat : at_ < n) (hn : n ≤ 1048576) (hk : (nm at_).nk ≤ 1048576) (hkd : (nm at_).kind = 26) (ha : NodesAt w a n nm) :
    Calls Tryz.prog 52 #[.slice a n c, .int .i64 at_] w fun e w' => e = .returned (.bool (exprnB (ndOf nm) at_)) ∧ Onw w w' := by
  obtain ⟨b, off, rfl, hc⟩ := ha.1 (by omega)
  obtain ⟨c0, c1, c2, c3, c4, c5, c6, c7⟩ := hc at_ hat
  clear hc
  have e20 : ((nm at_).kind == 20) = false := by simp [hkd]
  have e21 : ((nm at_).kind == 21) = false := by simp [hkd]
  have e22 : ((nm at_).kind == 22) = false := by simp [hkd]
  have e37 : ((nm at_).kind == 37) = false := by simp [hkd]
  have e23 : ((nm at_).kind == 23) = false := by simp [hkd]
  have e24 : ((nm at_).kind == 24) = false := by simp [hkd]
  have e25 : ((nm at_).kind == 25) = false := by simp [hkd]
  have e26 : ((nm at_).kind == 26) = true := by simp [hkd]
  have e0 : (((nm at_).nk : Int) == 0) = true ∨ (((nm at_).nk : Int) == 0) = false := by cases (((nm at_).nk : Int) == 0) <;> simp
  have fin : Hid (exprnB (ndOf nm) at_ = (((nm at_).nk : Int) == 0 && bareB (nm at_).toND false false false false 1)) := by
    show _ = _
    simp only [exprnB, ndOf, hkd]; rfl
  have HK : Hid _ := hkd
  clear hkd
  rcases e0 with e0 | e0
  all_goals
    go_enter Tryz.func52, Tryz.ntmps52
    go_wp2_with (first
      | (go_at_call 73; refine (l3exprs_any _ _ _ nm _ _ _ _ hat hn (by omega) (by omega) (by omega) (by exact ha.onw (Onw.alloc _ _))).mono ?_; rintro e w1 ⟨rfl, rfl⟩)
      | (go_at_call 71; refine (l3kid_any _ _ _ nm _ _ _ hat hn (by omega) (by exact ha.onw (Onw.alloc _ _))).mono ?_; rintro e w1 ⟨rfl, rfl⟩)
      | (go_at_call 75; refine (l3many_any _ _).mono ?_; rintro e w1 ⟨rfl, rfl⟩)
      | (go_at_call 72; refine (l3bare_any (nm at_) _ _ _ _ _ _ (by decide)).mono ?_; rintro e w1 ⟨rfl, rfl⟩))
    all_goals go_ret
    all_goals exact ⟨ret_bool (by rw [fin.out]; simp_all [spreadB, ndOf, fnum] <;> omega), by first | exact Onw.alloc _ _ | exact (Onw.alloc _ _).trans (Onw.alloc _ _)⟩

set_option linter.unusedSimpArgs false in
set_option maxRecDepth 100000 in
set_option maxHeartbeats 2000000 in
theorem l3expression_27 (a : Option Addr) (n c : Nat) (nm : Nat → NM) (at_ : Nat) (w : World) (hat : at_ < n) (hn : n ≤ 1048576) (hk : (nm at_).nk ≤ 1048576) (hkd : (nm at_).kind = 27) (ha : NodesAt w a n nm) :
    Calls Tryz.prog 52 #[.slice a n c, .int .i64 at_] w fun e w' => e = .returned (.bool (exprnB (ndOf nm) at_)) ∧ Onw w w' := by
  obtain ⟨b, off, rfl, hc⟩ := ha.1 (by omega)
  obtain ⟨c0, c1, c2, c3, c4, c5, c6, c7⟩ := hc at_ hat
  clear hc
  have e20 : ((nm at_).kind == 20) = false := by simp [hkd]
  have e21 : ((nm at_).kind == 21) = false := by simp [hkd]
  have e22 : ((nm at_).kind == 22) = false := by simp [hkd]
  have e37 : ((nm at_).kind == 37) = false := by simp [hkd]
  have e23 : ((nm at_).kind == 23) = false := by simp [hkd]
  have e24 : ((nm at_).kind == 24) = false := by simp [hkd]
  have e25 : ((nm at_).kind == 25) = false := by simp [hkd]
  have e26 : ((nm at_).kind == 26) = false := by simp [hkd]
  have e27 : ((nm at_).kind == 27) = true := by simp [hkd]
  have e0 : (((nm at_).nk : Int) == 0) = true ∨ (((nm at_).nk : Int) == 0) = false := by cases (((nm at_).nk : Int) == 0) <;> simp
  have fin : Hid (exprnB (ndOf nm) at_ = (((nm at_).nk : Int) == 0 && bareB (nm at_).toND false false false false 1)) := by
    show _ = _
    simp only [exprnB, ndOf, hkd]; rfl
  have HK : Hid _ := hkd
  clear hkd
  rcases e0 with e0 | e0
  all_goals
    go_enter Tryz.func52, Tryz.ntmps52
    go_wp2_with (first
      | (go_at_call 73; refine (l3exprs_any _ _ _ nm _ _ _ _ hat hn (by omega) (by omega) (by omega) (by exact ha.onw (Onw.alloc _ _))).mono ?_; rintro e w1 ⟨rfl, rfl⟩)
      | (go_at_call 71; refine (l3kid_any _ _ _ nm _ _ _ hat hn (by omega) (by exact ha.onw (Onw.alloc _ _))).mono ?_; rintro e w1 ⟨rfl, rfl⟩)
      | (go_at_call 75; refine (l3many_any _ _).mono ?_; rintro e w1 ⟨rfl, rfl⟩)
      | (go_at_call 72; refine (l3bare_any (nm at_) _ _ _ _ _ _ (by decide)).mono ?_; rintro e w1 ⟨rfl, rfl⟩))
    all_goals go_ret
    all_goals exact ⟨ret_bool (by rw [fin.out]; simp_all [spreadB, ndOf, fnum] <;> omega), by first | exact Onw.alloc _ _ | exact (Onw.alloc _ _).trans (Onw.alloc _ _)⟩
end Go.Proofs.YtnokgdgikdgaeaaGreat

namespace Go.Proofs.YtnokgdgikdgaeaaGreat
open Go.RowKit
attribute [local go_sem] run_store_float

set_option linter.unusedSimpArgs false in
set_option maxRecDepth 100000 in
set_option maxHeartbeats 2000000 in
theorem l3expression_36 (a : Option Addr) (n c : Nat) (nm : Nat → NM) (at_ : Nat) (w : World) (hat : at_ < n) (hn : n ≤ 1048576) (hk : (nm at_).nk ≤ 1048576) (hkd : (nm at_).kind = 36) (ha : NodesAt w a n nm) :
    Calls Tryz.prog 52 #[.slice a n c, .int .i64 at_] w fun e w' => e = .returned (.bool (exprnB (ndOf nm) at_)) ∧ Onw w w' := by
  obtain ⟨b, off, rfl, hc⟩ := ha.1 (by omega)
  obtain ⟨c0, c1, c2, c3, c4, c5, c6, c7⟩ := hc at_ hat
  clear hc
  have e20 : ((nm at_).kind == 20) = false := by simp [hkd]
  have e21 : ((nm at_).kind == 21) = false := by simp [hkd]
  have e22 : ((nm at_).kind == 22) = false := by simp [hkd]
  have e37 : ((nm at_).kind == 37) = false := by simp [hkd]
  have e23 : ((nm at_).kind == 23) = false := by simp [hkd]
  have e24 : ((nm at_).kind == 24) = false := by simp [hkd]
  have e25 : ((nm at_).kind == 25) = false := by simp [hkd]
  have e26 : ((nm at_).kind == 26) = false := by simp [hkd]
  have e27 : ((nm at_).kind == 27) = false := by simp [hkd]
  have e36 : ((nm at_).kind == 36) = true := by simp [hkd]
  have e0 : (((nm at_).nk : Int) == 0) = true ∨ (((nm at_).nk : Int) == 0) = false := by cases (((nm at_).nk : Int) == 0) <;> simp
  have fin : Hid (exprnB (ndOf nm) at_ = (((nm at_).nk : Int) == 0 && bareB (nm at_).toND false false false false 1)) := by
    show _ = _
    simp only [exprnB, ndOf, hkd]; rfl
  have HK : Hid _ := hkd
  clear hkd
  rcases e0 with e0 | e0
  all_goals
    go_enter Tryz.func52, Tryz.ntmps52
    go_wp2_with (first
      | (go_at_call 73; refine (l3exprs_any _ _ _ nm _ _ _ _ hat hn (by omega) (by omega) (by omega) (by exact ha.onw (Onw.alloc _ _))).mono ?_; rintro e w1 ⟨rfl, rfl⟩)
      | (go_at_call 71; refine (l3kid_any _ _ _ nm _ _ _ hat hn (by omega) (by exact ha.onw (Onw.alloc _ _))).mono ?_; rintro e w1 ⟨rfl, rfl⟩)
      | (go_at_call 75; refine (l3many_any _ _).mono ?_; rintro e w1 ⟨rfl, rfl⟩)
      | (go_at_call 72; refine (l3bare_any (nm at_) _ _ _ _ _ _ (by decide)).mono ?_; rintro e w1 ⟨rfl, rfl⟩))
    all_goals go_ret
    all_goals exact ⟨ret_bool (by rw [fin.out]; simp_all [spreadB, ndOf, fnum] <;> omega), by first | exact Onw.alloc _ _ | exact (Onw.alloc _ _).trans (Onw.alloc _ _)⟩

set_option linter.unusedSimpArgs false in
set_option maxRecDepth 100000 in
set_option maxHeartbeats 2000000 in
theorem l3expression_28 (a : Option Addr) (n c : Nat) (nm : Nat → NM) (at_ : Nat) (w : World) (hat : at_ < n) (hn : n ≤ 1048576) (hk : (nm at_).nk ≤ 1048576) (hkd : (nm at_).kind = 28) (ha : NodesAt w a n nm) :
    Calls Tryz.prog 52 #[.slice a n c, .int .i64 at_] w fun e w' => e = .returned (.bool (exprnB (ndOf nm) at_)) ∧ Onw w w' := by
  obtain ⟨b, off, rfl, hc⟩ := ha.1 (by omega)
  obtain ⟨c0, c1, c2, c3, c4, c5, c6, c7⟩ := hc at_ hat
  clear hc
  have e20 : ((nm at_).kind == 20) = false := by simp [hkd]
  have e21 : ((nm at_).kind == 21) = false := by simp [hkd]
  have e22 : ((nm at_).kind == 22) = false := by simp [hkd]
  have e37 : ((nm at_).kind == 37) = false := by simp [hkd]
  have e23 : ((nm at_).kind == 23) = false := by simp [hkd]
  have e24 : ((nm at_).kind == 24) = false := by simp [hkd]
  have e25 : ((nm at_).kind == 25) = false := by simp [hkd]
  have e26 : ((nm at_).kind == 26) = false := by simp [hkd]
  have e27 : ((nm at_).kind == 27) = false := by simp [hkd]
  have e36 : ((nm at_).kind == 36) = false := by simp [hkd]
  have e28 : ((nm at_).kind == 28) = true := by simp [hkd]
  have e0 : (((nm at_).nk : Int) == 0) = true ∨ (((nm at_).nk : Int) == 0) = false := by cases (((nm at_).nk : Int) == 0) <;> simp
  have fin : Hid (exprnB (ndOf nm) at_ = (((nm at_).nk : Int) == 0 && decide (0 ≤ (nm at_).num) && decide ((nm at_).num < 15) && bareB (nm at_).toND false true false false 0)) := by
    show _ = _
    simp only [exprnB, ndOf, hkd]; rfl
  have HK : Hid _ := hkd
  clear hkd
  rcases e0 with e0 | e0
  all_goals
    go_enter Tryz.func52, Tryz.ntmps52
    go_wp2_with (first
      | (go_at_call 73; refine (l3exprs_any _ _ _ nm _ _ _ _ hat hn (by omega) (by omega) (by omega) (by exact ha.onw (Onw.alloc _ _))).mono ?_; rintro e w1 ⟨rfl, rfl⟩)
      | (go_at_call 71; refine (l3kid_any _ _ _ nm _ _ _ hat hn (by omega) (by exact ha.onw (Onw.alloc _ _))).mono ?_; rintro e w1 ⟨rfl, rfl⟩)
      | (go_at_call 75; refine (l3many_any _ _).mono ?_; rintro e w1 ⟨rfl, rfl⟩)
      | (go_at_call 72; refine (l3bare_any (nm at_) _ _ _ _ _ _ (by decide)).mono ?_; rintro e w1 ⟨rfl, rfl⟩))
    all_goals go_ret
    all_goals exact ⟨ret_bool (by rw [fin.out]; simp_all [spreadB, ndOf, fnum] <;> omega), by first | exact Onw.alloc _ _ | exact (Onw.alloc _ _).trans (Onw.alloc _ _)⟩

set_option linter.unusedSimpArgs false in
set_option maxRecDepth 100000 in
set_option maxHeartbeats 2000000 in
theorem l3expression_29 (a : Option Addr) (n c : Nat) (nm : Nat → NM) (at_ : Nat) (w : World) (hat : at_ < n) (hn : n ≤ 1048576) (hk : (nm at_).nk ≤ 1048576) (hkd : (nm at_).kind = 29) (ha : NodesAt w a n nm) :
    Calls Tryz.prog 52 #[.slice a n c, .int .i64 at_] w fun e w' => e = .returned (.bool (exprnB (ndOf nm) at_)) ∧ Onw w w' := by
  obtain ⟨b, off, rfl, hc⟩ := ha.1 (by omega)
  obtain ⟨c0, c1, c2, c3, c4, c5, c6, c7⟩ := hc at_ hat
  clear hc
  have e20 : ((nm at_).kind == 20) = false := by simp [hkd]
  have e21 : ((nm at_).kind == 21) = false := by simp [hkd]
  have e22 : ((nm at_).kind == 22) = false := by simp [hkd]
  have e37 : ((nm at_).kind == 37) = false := by simp [hkd]
  have e23 : ((nm at_).kind == 23) = false := by simp [hkd]
  have e24 : ((nm at_).kind == 24) = false := by simp [hkd]
  have e25 : ((nm at_).kind == 25) = false := by simp [hkd]
  have e26 : ((nm at_).kind == 26) = false := by simp [hkd]
  have e27 : ((nm at_).kind == 27) = false := by simp [hkd]
  have e36 : ((nm at_).kind == 36) = false := by simp [hkd]
  have e28 : ((nm at_).kind == 28) = false := by simp [hkd]
  have e29 : ((nm at_).kind == 29) = true := by simp [hkd]
  have fin : Hid (exprnB (ndOf nm) at_ = (((nm at_).nk : Int) == 2 && exprsB (ndOf nm) at_ 0 (nm at_).nk && bareB (nm at_).toND false false false false 0)) := by
    show _ = _
    simp only [exprnB, ndOf, hkd]; rfl
  have HK : Hid _ := hkd
  clear hkd
  go_enter Tryz.func52, Tryz.ntmps52
  go_wp2_with (first
    | (go_at_call 73; refine (l3exprs_any _ _ _ nm _ _ _ _ hat hn (by omega) (by omega) (by omega) (by exact ha.onw (Onw.alloc _ _))).mono ?_; rintro e w1 ⟨rfl, rfl⟩)
    | (go_at_call 71; refine (l3kid_any _ _ _ nm _ _ _ hat hn (by omega) (by exact ha.onw (Onw.alloc _ _))).mono ?_; rintro e w1 ⟨rfl, rfl⟩)
    | (go_at_call 75; refine (l3many_any _ _).mono ?_; rintro e w1 ⟨rfl, rfl⟩)
    | (go_at_call 72; refine (l3bare_any (nm at_) _ _ _ _ _ _ (by decide)).mono ?_; rintro e w1 ⟨rfl, rfl⟩))
  all_goals go_ret
  all_goals exact ⟨ret_bool (by rw [fin.out]; simp_all [spreadB, ndOf, fnum] <;> omega), by first | exact Onw.alloc _ _ | exact (Onw.alloc _ _).trans (Onw.alloc _ _)⟩

set_option linter.unusedSimpArgs false in
set_option maxRecDepth 100000 in
set_option maxHeartbeats 2000000 in
theorem l3expression_30 (a : Option Addr) (n c : Nat) (nm : Nat → NM) (at_ : Nat) (w : World) (hat : at_ < n) (hn : n ≤ 1048576) (hk : (nm at_).nk ≤ 1048576) (hkd : (nm at_).kind = 30) (ha : NodesAt w a n nm) :
    Calls Tryz.prog 52 #[.slice a n c, .int .i64 at_] w fun e w' => e = .returned (.bool (exprnB (ndOf nm) at_)) ∧ Onw w w' := by
  obtain ⟨b, off, rfl, hc⟩ := ha.1 (by omega)
  obtain ⟨c0, c1, c2, c3, c4, c5, c6, c7⟩ := hc at_ hat
  clear hc
  have e20 : ((nm at_).kind == 20) = false := by simp [hkd]
  have e21 : ((nm at_).kind == 21) = false := by simp [hkd]
  have e22 : ((nm at_).kind == 22) = false := by simp [hkd]
  have e37 : ((nm at_).kind == 37) = false := by simp [hkd]
  have e23 : ((nm at_).kind == 23) = false := by simp [hkd]
  have e24 : ((nm at_).kind == 24) = false := by simp [hkd]
  have e25 : ((nm at_).kind == 25) = false := by simp [hkd]
  have e26 : ((nm at_).kind == 26) = false := by simp [hkd]
  have e27 : ((nm at_).kind == 27) = false := by simp [hkd]
  have e36 : ((nm at_).kind == 36) = false := by simp [hkd]
  have e28 : ((nm at_).kind == 28) = false := by simp [hkd]
  have e29 : ((nm at_).kind == 29) = false := by simp [hkd]
  have e30 : ((nm at_).kind == 30) = true := by simp [hkd]
  have fin : Hid (exprnB (ndOf nm) at_ = (((nm at_).nk : Int) == 2 && exprsB (ndOf nm) at_ 0 (nm at_).nk && bareB (nm at_).toND false false false false 0)) := by
    show _ = _
    simp only [exprnB, ndOf, hkd]; rfl
  have HK : Hid _ := hkd
  clear hkd
  go_enter Tryz.func52, Tryz.ntmps52
  go_wp2_with (first
    | (go_at_call 73; refine (l3exprs_any _ _ _ nm _ _ _ _ hat hn (by omega) (by omega) (by omega) (by exact ha.onw (Onw.alloc _ _))).mono ?_; rintro e w1 ⟨rfl, rfl⟩)
    | (go_at_call 71; refine (l3kid_any _ _ _ nm _ _ _ hat hn (by omega) (by exact ha.onw (Onw.alloc _ _))).mono ?_; rintro e w1 ⟨rfl, rfl⟩)
    | (go_at_call 75; refine (l3many_any _ _).mono ?_; rintro e w1 ⟨rfl, rfl⟩)
    | (go_at_call 72; refine (l3bare_any (nm at_) _ _ _ _ _ _ (by decide)).mono ?_; rintro e w1 ⟨rfl, rfl⟩))
  all_goals go_ret
  all_goals exact ⟨ret_bool (by rw [fin.out]; simp_all [spreadB, ndOf, fnum] <;> omega), by first | exact Onw.alloc _ _ | exact (Onw.alloc _ _).trans (Onw.alloc _ _)⟩
end Go.Proofs.YtnokgdgikdgaeaaGreat

namespace Go.Proofs.YtnokgdgikdgaeaaGreat
open Go.RowKit
attribute [local go_sem] run_store_float

set_option linter.unusedSimpArgs false in
set_option maxRecDepth 100000 in
set_option maxHeartbeats 2000000 in
theorem l3expression_33 (a : Option Addr) (n c : Nat) (nm : Nat → NM) (at_ : Nat) (w : World) (hat : at_ < n) (hn : n ≤ 1048576) (hk : (nm at_).nk ≤ 1048576) (hkd : (nm at_).kind = 33) (ha : NodesAt w a n nm) :
    Calls Tryz.prog 52 #[.slice a n c, .int .i64 at_] w fun e w' => e = .returned (.bool (exprnB (ndOf nm) at_)) ∧ Onw w w' := by
  obtain ⟨b, off, rfl, hc⟩ := ha.1 (by omega)
  obtain ⟨c0, c1, c2, c3, c4, c5, c6, c7⟩ := hc at_ hat
  clear hc
  have e20 : ((nm at_).kind == 20) = false := by simp [hkd]
  have e21 : ((nm at_).kind == 21) = false := by simp [hkd]
  have e22 : ((nm at_).kind == 22) = false := by simp [hkd]
  have e37 : ((nm at_).kind == 37) = false := by simp [hkd]
  have e23 : ((nm at_).kind == 23) = false := by simp [hkd]
  have e24 : ((nm at_).kind == 24) = false := by simp [hkd]
  have e25 : ((nm at_).kind == 25) = false := by simp [hkd]
  have e26 : ((nm at_).kind == 26) = false := by simp [hkd]
  have e27 : ((nm at_).kind == 27) = false := by simp [hkd]
  have e36 : ((nm at_).kind == 36) = false := by simp [hkd]
  have e28 : ((nm at_).kind == 28) = false := by simp [hkd]
  have e29 : ((nm at_).kind == 29) = false := by simp [hkd]
  have e30 : ((nm at_).kind == 30) = false := by simp [hkd]
  have e33 : ((nm at_).kind == 33) = true := by simp [hkd]
  have fin : Hid (exprnB (ndOf nm) at_ = (((nm at_).nk : Int) == 2 && exprsB (ndOf nm) at_ 0 (nm at_).nk && bareB (nm at_).toND false false false false 0)) := by
    show _ = _
    simp only [exprnB, ndOf, hkd]; rfl
  have HK : Hid _ := hkd
  clear hkd
  go_enter Tryz.func52, Tryz.ntmps52
  go_wp2_with (first
    | (go_at_call 73; refine (l3exprs_any _ _ _ nm _ _ _ _ hat hn (by omega) (by omega) (by omega) (by exact ha.onw (Onw.alloc _ _))).mono ?_; rintro e w1 ⟨rfl, rfl⟩)
    | (go_at_call 71; refine (l3kid_any _ _ _ nm _ _ _ hat hn (by omega) (by exact ha.onw (Onw.alloc _ _))).mono ?_; rintro e w1 ⟨rfl, rfl⟩)
    | (go_at_call 75; refine (l3many_any _ _).mono ?_; rintro e w1 ⟨rfl, rfl⟩)
    | (go_at_call 72; refine (l3bare_any (nm at_) _ _ _ _ _ _ (by decide)).mono ?_; rintro e w1 ⟨rfl, rfl⟩))
  all_goals go_ret
  all_goals exact ⟨ret_bool (by rw [fin.out]; simp_all [spreadB, ndOf, fnum] <;> omega), by first | exact Onw.alloc _ _ | exact (Onw.alloc _ _).trans (Onw.alloc _ _)⟩

set_option linter.unusedSimpArgs false in
set_option maxRecDepth 100000 in
set_option maxHeartbeats 2000000 in
theorem l3expression_31 (a : Option Addr) (n c : Nat) (nm : Nat → NM) (at_ : Nat) (w : World) (hat : at_ < n) (hn : n ≤ 1048576) (hk : (nm at_).nk ≤ 1048576) (hkd : (nm at_).kind = 31) (ha : NodesAt w a n nm) :
    Calls Tryz.prog 52 #[.slice a n c, .int .i64 at_] w fun e w' => e = .returned (.bool (exprnB (ndOf nm) at_)) ∧ Onw w w' := by
  obtain ⟨b, off, rfl, hc⟩ := ha.1 (by omega)
  obtain ⟨c0, c1, c2, c3, c4, c5, c6, c7⟩ := hc at_ hat
  clear hc
  have e20 : ((nm at_).kind == 20) = false := by simp [hkd]
  have e21 : ((nm at_).kind == 21) = false := by simp [hkd]
  have e22 : ((nm at_).kind == 22) = false := by simp [hkd]
  have e37 : ((nm at_).kind == 37) = false := by simp [hkd]
  have e23 : ((nm at_).kind == 23) = false := by simp [hkd]
  have e24 : ((nm at_).kind == 24) = false := by simp [hkd]
  have e25 : ((nm at_).kind == 25) = false := by simp [hkd]
  have e26 : ((nm at_).kind == 26) = false := by simp [hkd]
  have e27 : ((nm at_).kind == 27) = false := by simp [hkd]
  have e36 : ((nm at_).kind == 36) = false := by simp [hkd]
  have e28 : ((nm at_).kind == 28) = false := by simp [hkd]
  have e29 : ((nm at_).kind == 29) = false := by simp [hkd]
  have e30 : ((nm at_).kind == 30) = false := by simp [hkd]
  have e33 : ((nm at_).kind == 33) = false := by simp [hkd]
  have e31 : ((nm at_).kind == 31) = true := by simp [hkd]
  have fin : Hid (exprnB (ndOf nm) at_ = (((nm at_).nk : Int) == 1 && exprsB (ndOf nm) at_ 0 (nm at_).nk && decide (19 ≤ (nm at_).op) && decide ((nm at_).op ≤ 22) && bareB (nm at_).toND true false false false 0)) := by
    show _ = _
    simp only [exprnB, ndOf, hkd]; rfl
  have HK : Hid _ := hkd
  clear hkd
  go_enter Tryz.func52, Tryz.ntmps52
  go_wp2_with (first
    | (go_at_call 73; refine (l3exprs_any _ _ _ nm _ _ _ _ hat hn (by omega) (by omega) (by omega) (by exact ha.onw (Onw.alloc _ _))).mono ?_; rintro e w1 ⟨rfl, rfl⟩)
    | (go_at_call 71; refine (l3kid_any _ _ _ nm _ _ _ hat hn (by omega) (by exact ha.onw (Onw.alloc _ _))).mono ?_; rintro e w1 ⟨rfl, rfl⟩)
    | (go_at_call 75; refine (l3many_any _ _).mono ?_; rintro e w1 ⟨rfl, rfl⟩)
    | (go_at_call 72; refine (l3bare_any (nm at_) _ _ _ _ _ _ (by decide)).mono ?_; rintro e w1 ⟨rfl, rfl⟩))
  all_goals go_ret
  all_goals exact ⟨ret_bool (by rw [fin.out]; simp_all [spreadB, ndOf, fnum] <;> omega), by first | exact Onw.alloc _ _ | exact (Onw.alloc _ _).trans (Onw.alloc _ _)⟩

set_option linter.unusedSimpArgs false in
set_option maxRecDepth 100000 in
set_option maxHeartbeats 2000000 in
theorem l3expression_32 (a : Option Addr) (n c : Nat) (nm : Nat → NM) (at_ : Nat) (w : World) (hat : at_ < n) (hn : n ≤ 1048576) (hk : (nm at_).nk ≤ 1048576) (hkd : (nm at_).kind = 32) (ha : NodesAt w a n nm) :
    Calls Tryz.prog 52 #[.slice a n c, .int .i64 at_] w fun e w' => e = .returned (.bool (exprnB (ndOf nm) at_)) ∧ Onw w w' := by
  obtain ⟨b, off, rfl, hc⟩ := ha.1 (by omega)
  obtain ⟨c0, c1, c2, c3, c4, c5, c6, c7⟩ := hc at_ hat
  clear hc
  have e20 : ((nm at_).kind == 20) = false := by simp [hkd]
  have e21 : ((nm at_).kind == 21) = false := by simp [hkd]
  have e22 : ((nm at_).kind == 22) = false := by simp [hkd]
  have e37 : ((nm at_).kind == 37) = false := by simp [hkd]
  have e23 : ((nm at_).kind == 23) = false := by simp [hkd]
  have e24 : ((nm at_).kind == 24) = false := by simp [hkd]
  have e25 : ((nm at_).kind == 25) = false := by simp [hkd]
  have e26 : ((nm at_).kind == 26) = false := by simp [hkd]
  have e27 : ((nm at_).kind == 27) = false := by simp [hkd]
  have e36 : ((nm at_).kind == 36) = false := by simp [hkd]
  have e28 : ((nm at_).kind == 28) = false := by simp [hkd]
  have e29 : ((nm at_).kind == 29) = false := by simp [hkd]
  have e30 : ((nm at_).kind == 30) = false := by simp [hkd]
  have e33 : ((nm at_).kind == 33) = false := by simp [hkd]
  have e31 : ((nm at_).kind == 31) = false := by simp [hkd]
  have e32 : ((nm at_).kind == 32) = true := by simp [hkd]
  have fin : Hid (exprnB (ndOf nm) at_ = (((nm at_).nk : Int) == 2 && exprsB (ndOf nm) at_ 0 (nm at_).nk && decide (1 ≤ (nm at_).op) && decide ((nm at_).op ≤ 18) && bareB (nm at_).toND true false false false 0)) := by
    show _ = _
    simp only [exprnB, ndOf, hkd]; rfl
  have HK : Hid _ := hkd
  clear hkd
  go_enter Tryz.func52, Tryz.ntmps52
  go_wp2_with (first
    | (go_at_call 73; refine (l3exprs_any _ _ _ nm _ _ _ _ hat hn (by omega) (by omega) (by omega) (by exact ha.onw (Onw.alloc _ _))).mono ?_; rintro e w1 ⟨rfl, rfl⟩)
    | (go_at_call 71; refine (l3kid_any _ _ _ nm _ _ _ hat hn (by omega) (by exact ha.onw (Onw.alloc _ _))).mono ?_; rintro e w1 ⟨rfl, rfl⟩)
    | (go_at_call 75; refine (l3many_any _ _).mono ?_; rintro e w1 ⟨rfl, rfl⟩)
    | (go_at_call 72; refine (l3bare_any (nm at_) _ _ _ _ _ _ (by decide)).mono ?_; rintro e w1 ⟨rfl, rfl⟩))
  all_goals go_ret
  all_goals exact ⟨ret_bool (by rw [fin.out]; simp_all [spreadB, ndOf, fnum] <;> omega), by first | exact Onw.alloc _ _ | exact (Onw.alloc _ _).trans (Onw.alloc _ _)⟩
end Go.Proofs.YtnokgdgikdgaeaaGreat
