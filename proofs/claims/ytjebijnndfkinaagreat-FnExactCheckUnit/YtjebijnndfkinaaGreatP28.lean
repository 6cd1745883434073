import Derived.Test.YtjebijnndfkinaaGreatP25
import Derived.Test.YtjebijnndfkinaaGreatP26
import Derived.Test.YtjebijnndfkinaaGreatP27
namespace Go.Proofs.YtjebijnndfkinaaGreat
open Go.RowKit
attribute [local go_sem] run_store_float

set_option linter.unusedSimpArgs false in
set_option maxRecDepth 100000 in
set_option maxHeartbeats 2000000 in
theorem l3expression_33 (a : Option Addr) (n c : Nat) (nm : Nat → NM) (at_ : Nat) (w : World) (hat : at_ < n) (hn : n ≤ 1048576) (hk : (nm at_).nk ≤ 1048576) (hkd : (nm at_).kind = 33) (ha : NodesAt w a n nm) :
    Calls Tryz.prog 52 #[.slice a n c, .int .i64 at_] w fun e w' => e = .returned (.bool (exprnB (ndOf nm) at_)) ∧ Onw w w' := by
  obtain ⟨b, off, rfl, hc⟩ := ha.1 (by omega)
  obtain ⟨c0, c1, c2, c3, c4, c5, c6, c7⟩ := hc at_ hat
  clear hc
  have e20 : ((nm at_).kind == 20) = false := by simp [hkd]
  have e21 : ((nm at_).kind == 21) = false := by simp [hkd]
  have e22 : ((nm at_).kind == 22) = false := by simp [hkd]
  have e37 : ((nm at_).kind == 37) = false := by simp [hkd]
  have e23 : ((nm at_).kind == 23) = false := by simp [hkd]
  have e24 : ((nm at_).kind == 24) = false := by simp [hkd]
  have e25 : ((nm at_).kind == 25) = false := by simp [hkd]
  have e26 : ((nm at_).kind == 26) = false := by simp [hkd]
  have e27 : ((nm at_).kind == 27) = false := by simp [hkd]
  have e36 : ((nm at_).kind == 36) = false := by simp [hkd]
  have e28 : ((nm at_).kind == 28) = false := by simp [hkd]
  have e29 : ((nm at_).kind == 29) = false := by simp [hkd]
  have e30 : ((nm at_).kind == 30) = false := by simp [hkd]
  have e33 : ((nm at_).kind == 33) = true := by simp [hkd]
  have fin : Hid (exprnB (ndOf nm) at_ = (((nm at_).nk : Int) == 2 && exprsB (ndOf nm) at_ 0 (nm at_).nk && bareB (nm at_).toND false false false false 0)) := by
    show _ = _
    simp only [exprnB, ndOf, hkd]; rfl
  have HK : Hid _ := hkd
  clear hkd
  go_enter Tryz.func52, Tryz.ntmps52
  go_wp2_with (first
    | (go_at_call 73; refine (l3exprs_any _ _ _ nm _ _ _ _ hat hn (by omega) (by omega) (by omega) (by exact ha.onw (Onw.alloc _ _))).mono ?_; rintro e w1 ⟨rfl, rfl⟩)
    | (go_at_call 71; refine (l3kid_any _ _ _ nm _ _ _ hat hn (by omega) (by exact ha.onw (Onw.alloc _ _))).mono ?_; rintro e w1 ⟨rfl, rfl⟩)
    | (go_at_call 75; refine (l3many_any _ _).mono ?_; rintro e w1 ⟨rfl, rfl⟩)
    | (go_at_call 72; refine (l3bare_any (nm at_) _ _ _ _ _ _ (by decide)).mono ?_; rintro e w1 ⟨rfl, rfl⟩))
  all_goals go_ret
  all_goals exact ⟨ret_bool (by rw [fin.out]; simp_all [spreadB, ndOf, fnum] <;> omega), by first | exact Onw.alloc _ _ | exact (Onw.alloc _ _).trans (Onw.alloc _ _)⟩

set_option linter.unusedSimpArgs false in
set_option maxRecDepth 100000 in
set_option maxHeartbeats 2000000 in
theorem l3expression_31 (a : Option Addr) (n c : Nat) (nm : Nat → NM) (at_ : Nat) (w : World) (hat : at_ < n) (hn : n ≤ 1048576) (hk : (nm at_).nk ≤ 1048576) (hkd : (nm at_).kind = 31) (ha : NodesAt w a n nm) :
    Calls Tryz.prog 52 #[.slice a n c, .int .i64 at_] w fun e w' => e = .returned (.bool (exprnB (ndOf nm) at_)) ∧ Onw w w' := by
  obtain ⟨b, off, rfl, hc⟩ := ha.1 (by omega)
  obtain ⟨c0, c1, c2, c3, c4, c5, c6, c7⟩ := hc at_ hat
  clear hc
  have e20 : ((nm at_).kind == 20) = false := by simp [hkd]
  have e21 : ((nm at_).kind == 21) = false := by simp [hkd]
  have e22 : ((nm at_).kind == 22) = false := by simp [hkd]
  have e37 : ((nm at_).kind == 37) = false := by simp [hkd]
  have e23 : ((nm at_).kind == 23) = false := by simp [hkd]
  have e24 : ((nm at_).kind == 24) = false := by simp [hkd]
  have e25 : ((nm at_).kind == 25) = false := by simp [hkd]
  have e26 : ((nm at_).kind == 26) = false := by simp [hkd]
  have e27 : ((nm at_).kind == 27) = false := by simp [hkd]
  have e36 : ((nm at_).kind == 36) = false := by simp [hkd]
  have e28 : ((nm at_).kind == 28) = false := by simp [hkd]
  have e29 : ((nm at_).kind == 29) = false := by simp [hkd]
  have e30 : ((nm at_).kind == 30) = false := by simp [hkd]
  have e33 : ((nm at_).kind == 33) = false := by simp [hkd]
  have e31 : ((nm at_).kind == 31) = true := by simp [hkd]
  have fin : Hid (exprnB (ndOf nm) at_ = (((nm at_).nk : Int) == 1 && exprsB (ndOf nm) at_ 0 (nm at_).nk && decide (19 ≤ (nm at_).op) && decide ((nm at_).op ≤ 22) && bareB (nm at_).toND true false false false 0)) := by
    show _ = _
    simp only [exprnB, ndOf, hkd]; rfl
  have HK : Hid _ := hkd
  clear hkd
  go_enter Tryz.func52, Tryz.ntmps52
  go_wp2_with (first
    | (go_at_call 73; refine (l3exprs_any _ _ _ nm _ _ _ _ hat hn (by omega) (by omega) (by omega) (by exact ha.onw (Onw.alloc _ _))).mono ?_; rintro e w1 ⟨rfl, rfl⟩)
    | (go_at_call 71; refine (l3kid_any _ _ _ nm _ _ _ hat hn (by omega) (by exact ha.onw (Onw.alloc _ _))).mono ?_; rintro e w1 ⟨rfl, rfl⟩)
    | (go_at_call 75; refine (l3many_any _ _).mono ?_; rintro e w1 ⟨rfl, rfl⟩)
    | (go_at_call 72; refine (l3bare_any (nm at_) _ _ _ _ _ _ (by decide)).mono ?_; rintro e w1 ⟨rfl, rfl⟩))
  all_goals go_ret
  all_goals exact ⟨ret_bool (by rw [fin.out]; simp_all [spreadB, ndOf, fnum] <;> omega), by first | exact Onw.alloc _ _ | exact (Onw.alloc _ _).trans (Onw.alloc _ _)⟩

set_option linter.unusedSimpArgs false in
set_option maxRecDepth 100000 in
set_option maxHeartbeats 2000000 in
theorem l3expression_32 (a : Option Addr) (n c : Nat) (nm : Nat → NM) (at_ : Nat) (w : World) (hat : at_ < n) (hn : n ≤ 1048576) (hk : (nm at_).nk ≤ 1048576) (hkd : (nm at_).kind = 32) (ha : NodesAt w a n nm) :
    Calls Tryz.prog 52 #[.slice a n c, .int .i64 at_] w fun e w' => e = .returned (.bool (exprnB (ndOf nm) at_)) ∧ Onw w w' := by
  obtain ⟨b, off, rfl, hc⟩ := ha.1 (by omega)
  obtain ⟨c0, c1, c2, c3, c4, c5, c6, c7⟩ := hc at_ hat
  clear hc
  have e20 : ((nm at_).kind == 20) = false := by simp [hkd]
  have e21 : ((nm at_).kind == 21) = false := by simp [hkd]
  have e22 : ((nm at_).kind == 22) = false := by simp [hkd]
  have e37 : ((nm at_).kind == 37) = false := by simp [hkd]
  have e23 : ((nm at_).kind == 23) = false := by simp [hkd]
  have e24 : ((nm at_).kind == 24) = false := by simp [hkd]
  have e25 : ((nm at_).kind == 25) = false := by simp [hkd]
  have e26 : ((nm at_).kind == 26) = false := by simp [hkd]
  have e27 : ((nm at_).kind == 27) = false := by simp [hkd]
  have e36 : ((nm at_).kind == 36) = false := by simp [hkd]
  have e28 : ((nm at_).kind == 28) = false := by simp [hkd]
  have e29 : ((nm at_).kind == 29) = false := by simp [hkd]
  have e30 : ((nm at_).kind == 30) = false := by simp [hkd]
  have e33 : ((nm at_).kind == 33) = false := by simp [hkd]
  have e31 : ((nm at_).kind == 31) = false := by simp [hkd]
  have e32 : ((nm at_).kind == 32) = true := by simp [hkd]
  have fin : Hid (exprnB (ndOf nm) at_ = (((nm at_).nk : Int) == 2 && exprsB (ndOf nm) at_ 0 (nm at_).nk && decide (1 ≤ (nm at_).op) && decide ((nm at_).op ≤ 18) && bareB (nm at_).toND true false false false 0)) := by
    show _ = _
    simp only [exprnB, ndOf, hkd]; rfl
  have HK : Hid _ := hkd
  clear hkd
  go_enter Tryz.func52, Tryz.ntmps52
  go_wp2_with (first
    | (go_at_call 73; refine (l3exprs_any _ _ _ nm _ _ _ _ hat hn (by omega) (by omega) (by omega) (by exact ha.onw (Onw.alloc _ _))).mono ?_; rintro e w1 ⟨rfl, rfl⟩)
    | (go_at_call 71; refine (l3kid_any _ _ _ nm _ _ _ hat hn (by omega) (by exact ha.onw (Onw.alloc _ _))).mono ?_; rintro e w1 ⟨rfl, rfl⟩)
    | (go_at_call 75; refine (l3many_any _ _).mono ?_; rintro e w1 ⟨rfl, rfl⟩)
    | (go_at_call 72; refine (l3bare_any (nm at_) _ _ _ _ _ _ (by decide)).mono ?_; rintro e w1 ⟨rfl, rfl⟩))
  all_goals go_ret
  all_goals exact ⟨ret_bool (by rw [fin.out]; simp_all [spreadB, ndOf, fnum] <;> omega), by first | exact Onw.alloc _ _ | exact (Onw.alloc _ _).trans (Onw.alloc _ _)⟩
end Go.Proofs.YtjebijnndfkinaaGreat

namespace Go.Proofs.YtjebijnndfkinaaGreat
open Go.RowKit
attribute [local go_sem] run_store_float

set_option linter.unusedSimpArgs false in
set_option maxRecDepth 100000 in
set_option maxHeartbeats 2000000 in
theorem l3expression_34 (a : Option Addr) (n c : Nat) (nm : Nat → NM) (at_ : Nat) (w : World) (hat : at_ < n) (hn : n ≤ 1048576) (hk : (nm at_).nk ≤ 1048576) (hkd : (nm at_).kind = 34) (ha : NodesAt w a n nm) :
    Calls Tryz.prog 52 #[.slice a n c, .int .i64 at_] w fun e w' => e = .returned (.bool (exprnB (ndOf nm) at_)) ∧ Onw w w' := by
  obtain ⟨b, off, rfl, hc⟩ := ha.1 (by omega)
  obtain ⟨c0, c1, c2, c3, c4, c5, c6, c7⟩ := hc at_ hat
  clear hc
  have e20 : ((nm at_).kind == 20) = false := by simp [hkd]
  have e21 : ((nm at_).kind == 21) = false := by simp [hkd]
  have e22 : ((nm at_).kind == 22) = false := by simp [hkd]
  have e37 : ((nm at_).kind == 37) = false := by simp [hkd]
  have e23 : ((nm at_).kind == 23) = false := by simp [hkd]
  have e24 : ((nm at_).kind == 24) = false := by simp [hkd]
  have e25 : ((nm at_).kind == 25) = false := by simp [hkd]
  have e26 : ((nm at_).kind == 26) = false := by simp [hkd]
  have e27 : ((nm at_).kind == 27) = false := by simp [hkd]
  have e36 : ((nm at_).kind == 36) = false := by simp [hkd]
  have e28 : ((nm at_).kind == 28) = false := by simp [hkd]
  have e29 : ((nm at_).kind == 29) = false := by simp [hkd]
  have e30 : ((nm at_).kind == 30) = false := by simp [hkd]
  have e33 : ((nm at_).kind == 33) = false := by simp [hkd]
  have e31 : ((nm at_).kind == 31) = false := by simp [hkd]
  have e32 : ((nm at_).kind == 32) = false := by simp [hkd]
  have e34 : ((nm at_).kind == 34) = true := by simp [hkd]
  have fin : Hid (exprnB (ndOf nm) at_ = (decide (1 ≤ (nm at_).nk) && exprsB (ndOf nm) at_ 0 (nm at_).nk && bareB (nm at_).toND false false false false 0)) := by
    show _ = _
    simp only [exprnB, ndOf, hkd]; rfl
  have HK : Hid _ := hkd
  clear hkd
  go_enter Tryz.func52, Tryz.ntmps52
  go_wp2_with (first
    | (go_at_call 73; refine (l3exprs_any _ _ _ nm _ _ _ _ hat hn (by omega) (by omega) (by omega) (by exact ha.onw (Onw.alloc _ _))).mono ?_; rintro e w1 ⟨rfl, rfl⟩)
    | (go_at_call 71; refine (l3kid_any _ _ _ nm _ _ _ hat hn (by omega) (by exact ha.onw (Onw.alloc _ _))).mono ?_; rintro e w1 ⟨rfl, rfl⟩)
    | (go_at_call 75; refine (l3many_any _ _).mono ?_; rintro e w1 ⟨rfl, rfl⟩)
    | (go_at_call 72; refine (l3bare_any (nm at_) _ _ _ _ _ _ (by decide)).mono ?_; rintro e w1 ⟨rfl, rfl⟩))
  all_goals go_ret
  all_goals exact ⟨ret_bool (by rw [fin.out]; simp_all [spreadB, ndOf, fnum] <;> omega), by first | exact Onw.alloc _ _ | exact (Onw.alloc _ _).trans (Onw.alloc _ _)⟩

set_option linter.unusedSimpArgs false in
set_option maxRecDepth 100000 in
set_option maxHeartbeats 2000000 in
theorem l3expression_38 (a : Option Addr) (n c : Nat) (nm : Nat → NM) (at_ : Nat) (w : World) (hat : at_ < n) (hn : n ≤ 1048576) (hk : (nm at_).nk ≤ 1048576) (hkd : (nm at_).kind = 38) (ha : NodesAt w a n nm) :
    Calls Tryz.prog 52 #[.slice a n c, .int .i64 at_] w fun e w' => e = .returned (.bool (exprnB (ndOf nm) at_)) ∧ Onw w w' := by
  obtain ⟨b, off, rfl, hc⟩ := ha.1 (by omega)
  obtain ⟨c0, c1, c2, c3, c4, c5, c6, c7⟩ := hc at_ hat
  clear hc
  have e20 : ((nm at_).kind == 20) = false := by simp [hkd]
  have e21 : ((nm at_).kind == 21) = false := by simp [hkd]
  have e22 : ((nm at_).kind == 22) = false := by simp [hkd]
  have e37 : ((nm at_).kind == 37) = false := by simp [hkd]
  have e23 : ((nm at_).kind == 23) = false := by simp [hkd]
  have e24 : ((nm at_).kind == 24) = false := by simp [hkd]
  have e25 : ((nm at_).kind == 25) = false := by simp [hkd]
  have e26 : ((nm at_).kind == 26) = false := by simp [hkd]
  have e27 : ((nm at_).kind == 27) = false := by simp [hkd]
  have e36 : ((nm at_).kind == 36) = false := by simp [hkd]
  have e28 : ((nm at_).kind == 28) = false := by simp [hkd]
  have e29 : ((nm at_).kind == 29) = false := by simp [hkd]
  have e30 : ((nm at_).kind == 30) = false := by simp [hkd]
  have e33 : ((nm at_).kind == 33) = false := by simp [hkd]
  have e31 : ((nm at_).kind == 31) = false := by simp [hkd]
  have e32 : ((nm at_).kind == 32) = false := by simp [hkd]
  have e34 : ((nm at_).kind == 34) = false := by simp [hkd]
  have e35 : ((nm at_).kind == 35) = false := by simp [hkd]
  have e38 : ((nm at_).kind == 38) = true := by simp [hkd]
  have fin : Hid (exprnB (ndOf nm) at_ = (((nm at_).nk : Int) == 1 && manyB (kidK (ndOf nm) at_ 0) && bareB (nm at_).toND false false false false 0)) := by
    show _ = _
    simp only [exprnB, ndOf, hkd]; rfl
  have HK : Hid _ := hkd
  clear hkd
  go_enter Tryz.func52, Tryz.ntmps52
  go_wp2_with (first
    | (go_at_call 73; refine (l3exprs_any _ _ _ nm _ _ _ _ hat hn (by omega) (by omega) (by omega) (by exact ha.onw (Onw.alloc _ _))).mono ?_; rintro e w1 ⟨rfl, rfl⟩)
    | (go_at_call 71; refine (l3kid_any _ _ _ nm _ _ _ hat hn (by omega) (by exact ha.onw (Onw.alloc _ _))).mono ?_; rintro e w1 ⟨rfl, rfl⟩)
    | (go_at_call 75; refine (l3many_any _ _).mono ?_; rintro e w1 ⟨rfl, rfl⟩)
    | (go_at_call 72; refine (l3bare_any (nm at_) _ _ _ _ _ _ (by decide)).mono ?_; rintro e w1 ⟨rfl, rfl⟩))
  all_goals go_ret
  all_goals exact ⟨ret_bool (by rw [fin.out]; simp_all [spreadB, ndOf, fnum] <;> omega), by first | exact Onw.alloc _ _ | exact (Onw.alloc _ _).trans (Onw.alloc _ _)⟩

set_option linter.unusedSimpArgs false in
set_option maxRecDepth 100000 in
set_option maxHeartbeats 2000000 in
theorem l3expression_x (a : Option Addr) (n c : Nat) (nm : Nat → NM) (at_ : Nat) (w : World) (hat : at_ < n) (hn : n ≤ 1048576) (hk : (nm at_).nk ≤ 1048576) (hkd : ∀ k : Int, k ∈ [(20 : Int), 21, 22, 37, 23, 24, 25, 26, 27, 36, 28, 29, 30, 33, 31, 32, 34, 35, 38] → (nm at_).kind ≠ k) (ha : NodesAt w a n nm) :
    Calls Tryz.prog 52 #[.slice a n c, .int .i64 at_] w fun e w' => e = .returned (.bool (exprnB (ndOf nm) at_)) ∧ Onw w w' := by
  obtain ⟨b, off, rfl, hc⟩ := ha.1 (by omega)
  obtain ⟨c0, c1, c2, c3, c4, c5, c6, c7⟩ := hc at_ hat
  clear hc
  have e20 : ((nm at_).kind == 20) = false := by have := hkd 20 (by simp); simpa using this
  have e21 : ((nm at_).kind == 21) = false := by have := hkd 21 (by simp); simpa using this
  have e22 : ((nm at_).kind == 22) = false := by have := hkd 22 (by simp); simpa using this
  have e37 : ((nm at_).kind == 37) = false := by have := hkd 37 (by simp); simpa using this
  have e23 : ((nm at_).kind == 23) = false := by have := hkd 23 (by simp); simpa using this
  have e24 : ((nm at_).kind == 24) = false := by have := hkd 24 (by simp); simpa using this
  have e25 : ((nm at_).kind == 25) = false := by have := hkd 25 (by simp); simpa using this
  have e26 : ((nm at_).kind == 26) = false := by have := hkd 26 (by simp); simpa using this
  have e27 : ((nm at_).kind == 27) = false := by have := hkd 27 (by simp); simpa using this
  have e36 : ((nm at_).kind == 36) = false := by have := hkd 36 (by simp); simpa using this
  have e28 : ((nm at_).kind == 28) = false := by have := hkd 28 (by simp); simpa using this
  have e29 : ((nm at_).kind == 29) = false := by have := hkd 29 (by simp); simpa using this
  have e30 : ((nm at_).kind == 30) = false := by have := hkd 30 (by simp); simpa using this
  have e33 : ((nm at_).kind == 33) = false := by have := hkd 33 (by simp); simpa using this
  have e31 : ((nm at_).kind == 31) = false := by have := hkd 31 (by simp); simpa using this
  have e32 : ((nm at_).kind == 32) = false := by have := hkd 32 (by simp); simpa using this
  have e34 : ((nm at_).kind == 34) = false := by have := hkd 34 (by simp); simpa using this
  have e35 : ((nm at_).kind == 35) = false := by have := hkd 35 (by simp); simpa using this
  have e38 : ((nm at_).kind == 38) = false := by have := hkd 38 (by simp); simpa using this
  have fin : Hid (exprnB (ndOf nm) at_ = false) := by
    show _ = _
    simp only [exprnB, ndOf]
    simp only [beq_eq_false_iff_ne, ne_eq] at e20 e21 e22 e37 e23 e24 e25 e26 e27 e36 e28 e29 e30 e33 e31 e32 e34 e35 e38
    simp [e20, e21, e22, e37, e23, e24, e25, e26, e27, e36, e28, e29, e30, e33, e31, e32, e34, e35, e38]
  have HK : Hid _ := hkd
  clear hkd
  go_enter Tryz.func52, Tryz.ntmps52
  go_wp2_with (first
    | (go_at_call 73; refine (l3exprs_any _ _ _ nm _ _ _ _ hat hn (by omega) (by omega) (by omega) (by exact ha.onw (Onw.alloc _ _))).mono ?_; rintro e w1 ⟨rfl, rfl⟩)
    | (go_at_call 71; refine (l3kid_any _ _ _ nm _ _ _ hat hn (by omega) (by exact ha.onw (Onw.alloc _ _))).mono ?_; rintro e w1 ⟨rfl, rfl⟩)
    | (go_at_call 75; refine (l3many_any _ _).mono ?_; rintro e w1 ⟨rfl, rfl⟩)
    | (go_at_call 72; refine (l3bare_any (nm at_) _ _ _ _ _ _ (by decide)).mono ?_; rintro e w1 ⟨rfl, rfl⟩))
  all_goals go_ret
  all_goals exact ⟨ret_bool (by rw [fin.out]), by first | exact Onw.alloc _ _ | exact (Onw.alloc _ _).trans (Onw.alloc _ _)⟩
end Go.Proofs.YtjebijnndfkinaaGreat

namespace Go.Proofs.YtjebijnndfkinaaGreat
open Go.RowKit
attribute [local go_sem] run_store_float

set_option linter.unusedSimpArgs false in
set_option maxRecDepth 100000 in
set_option maxHeartbeats 2000000 in
theorem l3expression_35 (a : Option Addr) (n c : Nat) (nm : Nat → NM) (at_ : Nat) (w : World) (hat : at_ < n) (hn : n ≤ 1048576) (hk : (nm at_).nk ≤ 1048576) (hkd : (nm at_).kind = 35) (ha : NodesAt w a n nm) :
    Calls Tryz.prog 52 #[.slice a n c, .int .i64 at_] w fun e w' => e = .returned (.bool (exprnB (ndOf nm) at_)) ∧ Onw w w' := by
  obtain ⟨b, off, rfl, hc⟩ := ha.1 (by omega)
  obtain ⟨c0, c1, c2, c3, c4, c5, c6, c7⟩ := hc at_ hat
  clear hc
  have e20 : ((nm at_).kind == 20) = false := by simp [hkd]
  have e21 : ((nm at_).kind == 21) = false := by simp [hkd]
  have e22 : ((nm at_).kind == 22) = false := by simp [hkd]
  have e37 : ((nm at_).kind == 37) = false := by simp [hkd]
  have e23 : ((nm at_).kind == 23) = false := by simp [hkd]
  have e24 : ((nm at_).kind == 24) = false := by simp [hkd]
  have e25 : ((nm at_).kind == 25) = false := by simp [hkd]
  have e26 : ((nm at_).kind == 26) = false := by simp [hkd]
  have e27 : ((nm at_).kind == 27) = false := by simp [hkd]
  have e36 : ((nm at_).kind == 36) = false := by simp [hkd]
  have e28 : ((nm at_).kind == 28) = false := by simp [hkd]
  have e29 : ((nm at_).kind == 29) = false := by simp [hkd]
  have e30 : ((nm at_).kind == 30) = false := by simp [hkd]
  have e33 : ((nm at_).kind == 33) = false := by simp [hkd]
  have e31 : ((nm at_).kind == 31) = false := by simp [hkd]
  have e32 : ((nm at_).kind == 32) = false := by simp [hkd]
  have e34 : ((nm at_).kind == 34) = false := by simp [hkd]
  have e35 : ((nm at_).kind == 35) = true := by simp [hkd]
  have o0 : ((nm at_).op == 0) = true ∧ ((nm at_).op == 1) = false ∨ ((nm at_).op == 0) = false ∧ ((nm at_).op == 1) = true ∨ ((nm at_).op == 0) = false ∧ ((nm at_).op == 1) = false := by simp; omega
  have fin : Hid (exprnB (ndOf nm) at_ = (((nm at_).nk : Int) % 2 == 0 && exprsB (ndOf nm) at_ 0 (nm at_).nk && spreadB (ndOf nm) at_ && bareB (nm at_).toND true false false false 0)) := by
    show _ = _
    simp only [exprnB, ndOf, hkd]; rfl
  have HK : Hid _ := hkd
  clear hkd
  rcases o0 with ⟨o0, o1⟩ | ⟨o0, o1⟩ | ⟨o0, o1⟩
  all_goals
    go_enter Tryz.func52, Tryz.ntmps52
    go_wp2_with (first
      | (go_at_call 73; refine (l3exprs_any _ _ _ nm _ _ _ _ hat hn (by omega) (by omega) (by omega) (by exact ha.onw (Onw.alloc _ _))).mono ?_; rintro e w1 ⟨rfl, rfl⟩)
      | (go_at_call 71; refine (l3kid_any _ _ _ nm _ _ _ hat hn (by omega) (by exact ha.onw (Onw.alloc _ _))).mono ?_; rintro e w1 ⟨rfl, rfl⟩)
      | (go_at_call 75; refine (l3many_any _ _).mono ?_; rintro e w1 ⟨rfl, rfl⟩)
      | (go_at_call 72; refine (l3bare_any (nm at_) _ _ _ _ _ _ (by decide)).mono ?_; rintro e w1 ⟨rfl, rfl⟩))
    all_goals go_ret
    all_goals exact ⟨ret_bool (by rw [fin.out]; simp_all [spreadB, ndOf, fnum] <;> first | omega | (intro h; exact absurd (of_decide_eq_true h) (by omega))), by first | exact Onw.alloc _ _ | exact (Onw.alloc _ _).trans (Onw.alloc _ _)⟩
end Go.Proofs.YtjebijnndfkinaaGreat

namespace Go.Proofs.YtjebijnndfkinaaGreat
open Go.RowKit
attribute [local go_sem] run_store_float

theorem l3statement_any (a : Option Addr) (n c : Nat) (nm : Nat → NM) (at_ : Nat) (w : World) (hat : at_ < n) (hn : n ≤ 1048576) (hk : (nm at_).nk ≤ 1048576) (hs : statB (nm at_).kind = true) (ha : NodesAt w a n nm) :
    Calls Tryz.prog 51 #[.slice a n c, .int .i64 at_] w fun e w' => e = .returned (.bool (stmtB (ndOf nm) at_)) ∧ Onw w w' := by
  have hs' : 1 ≤ (nm at_).kind ∧ (nm at_).kind ≤ 14 := by simpa [statB] using hs
  by_cases h1 : (nm at_).kind = 1
  · exact l3statement_1 a n c nm at_ w hat hn hk h1 ha
  by_cases h2 : (nm at_).kind = 2
  · exact l3statement_2 a n c nm at_ w hat hn hk h2 ha
  by_cases h3 : (nm at_).kind = 3
  · exact l3statement_3 a n c nm at_ w hat hn hk h3 ha
  by_cases h4 : (nm at_).kind = 4
  · exact l3statement_4 a n c nm at_ w hat hn hk h4 ha
  by_cases h5 : (nm at_).kind = 5
  · exact l3statement_5 a n c nm at_ w hat hn hk h5 ha
  by_cases h6 : (nm at_).kind = 6
  · exact l3statement_6 a n c nm at_ w hat hn hk h6 ha
  by_cases h7 : (nm at_).kind = 7
  · exact l3statement_7 a n c nm at_ w hat hn hk h7 ha
  by_cases h8 : (nm at_).kind = 8
  · exact l3statement_8 a n c nm at_ w hat hn hk h8 ha
  by_cases h9 : (nm at_).kind = 9
  · exact l3statement_9 a n c nm at_ w hat hn hk h9 ha
  by_cases h10 : (nm at_).kind = 10
  · exact l3statement_10 a n c nm at_ w hat hn hk h10 ha
  by_cases h11 : (nm at_).kind = 11
  · exact l3statement_11 a n c nm at_ w hat hn hk h11 ha
  by_cases h12 : (nm at_).kind = 12
  · exact l3statement_12 a n c nm at_ w hat hn hk h12 ha
  by_cases h13 : (nm at_).kind = 13
  · exact l3statement_13 a n c nm at_ w hat hn hk h13 ha
  exact l3statement_14 a n c nm at_ w hat hn hk (by omega) ha

theorem l3expression_any (a : Option Addr) (n c : Nat) (nm : Nat → NM) (at_ : Nat) (w : World) (hat : at_ < n) (hn : n ≤ 1048576) (hk : (nm at_).nk ≤ 1048576) (ha : NodesAt w a n nm) :
    Calls Tryz.prog 52 #[.slice a n c, .int .i64 at_] w fun e w' => e = .returned (.bool (exprnB (ndOf nm) at_)) ∧ Onw w w' := by
  by_cases h20 : (nm at_).kind = 20
  · exact l3expression_20 a n c nm at_ w hat hn hk h20 ha
  by_cases h21 : (nm at_).kind = 21
  · exact l3expression_21 a n c nm at_ w hat hn hk h21 ha
  by_cases h22 : (nm at_).kind = 22
  · exact l3expression_22 a n c nm at_ w hat hn hk h22 ha
  by_cases h23 : (nm at_).kind = 23
  · exact l3expression_23 a n c nm at_ w hat hn hk h23 ha
  by_cases h24 : (nm at_).kind = 24
  · exact l3expression_24 a n c nm at_ w hat hn hk h24 ha
  by_cases h25 : (nm at_).kind = 25
  · exact l3expression_25 a n c nm at_ w hat hn hk h25 ha
  by_cases h26 : (nm at_).kind = 26
  · exact l3expression_26 a n c nm at_ w hat hn hk h26 ha
  by_cases h27 : (nm at_).kind = 27
  · exact l3expression_27 a n c nm at_ w hat hn hk h27 ha
  by_cases h28 : (nm at_).kind = 28
  · exact l3expression_28 a n c nm at_ w hat hn hk h28 ha
  by_cases h29 : (nm at_).kind = 29
  · exact l3expression_29 a n c nm at_ w hat hn hk h29 ha
  by_cases h30 : (nm at_).kind = 30
  · exact l3expression_30 a n c nm at_ w hat hn hk h30 ha
  by_cases h31 : (nm at_).kind = 31
  · exact l3expression_31 a n c nm at_ w hat hn hk h31 ha
  by_cases h32 : (nm at_).kind = 32
  · exact l3expression_32 a n c nm at_ w hat hn hk h32 ha
  by_cases h33 : (nm at_).kind = 33
  · exact l3expression_33 a n c nm at_ w hat hn hk h33 ha
  by_cases h34 : (nm at_).kind = 34
  · exact l3expression_34 a n c nm at_ w hat hn hk h34 ha
  by_cases h35 : (nm at_).kind = 35
  · exact l3expression_35 a n c nm at_ w hat hn hk h35 ha
  by_cases h36 : (nm at_).kind = 36
  · exact l3expression_36 a n c nm at_ w hat hn hk h36 ha
  by_cases h37 : (nm at_).kind = 37
  · exact l3expression_37 a n c nm at_ w hat hn hk h37 ha
  by_cases h38 : (nm at_).kind = 38
  · exact l3expression_38 a n c nm at_ w hat hn hk h38 ha
  refine l3expression_x a n c nm at_ w hat hn hk ?_ ha
  intro k hk e
  simp at hk
  omega
end Go.Proofs.YtjebijnndfkinaaGreat
