import Derived.Test.YtnokgdgikdgaeaaGreatP16
import Derived.Test.YtnokgdgikdgaeaaGreatP17
import Derived.Test.YtnokgdgikdgaeaaGreatP01
import Derived.Test.YtnokgdgikdgaeaaGreatP02
import Derived.Deep.DeepCutAuto
namespace Go.Proofs.YtnokgdgikdgaeaaGreat
open Go.RowKit
attribute [local go_sem] run_store_float

set_option linter.unusedSimpArgs false in
set_option maxRecDepth 100000 in
set_option maxHeartbeats 2000000 in
theorem l3expression_34 (a : Option Addr) (n c : Nat) (nm : Nat → NM) (at_ : Nat) (w : World) (hat : at_ < n) (hn : n ≤ 1048576) (hk : (nm at_).nk ≤ 1048576) (hkd : (nm at_).kind = 34) (ha : NodesAt w a n nm) :
    Calls Tryz.prog 52 #[.slice a n c, .int .i64 at_] w fun e w' => e = .returned (.bool (exprnB (ndOf nm) at_)) ∧ Onw w w' := by
  obtain ⟨b, off, rfl, hc⟩ := ha.1 (by omega)
  obtain ⟨c0, c1, c2, c3, c4, c5, c6, c7⟩ := hc at_ hat
  clear hc
  have e20 : ((nm at_).kind == 20) = false := by simp [hkd]
  have e21 : ((nm at_).kind == 21) = false := by simp [hkd]
  have e22 : ((nm at_).kind == 22) = false := by simp [hkd]
  have e37 : ((nm at_).kind == 37) = false := by simp [hkd]
  have e23 : ((nm at_).kind == 23) = false := by simp [hkd]
  have e24 : ((nm at_).kind == 24) = false := by simp [hkd]
  have e25 : ((nm at_).kind == 25) = false := by simp [hkd]
  have e26 : ((nm at_).kind == 26) = false := by simp [hkd]
  have e27 : ((nm at_).kind == 27) = false := by simp [hkd]
  have e36 : ((nm at_).kind == 36) = false := by simp [hkd]
  have e28 : ((nm at_).kind == 28) = false := by simp [hkd]
  have e29 : ((nm at_).kind == 29) = false := by simp [hkd]
  have e30 : ((nm at_).kind == 30) = false := by simp [hkd]
  have e33 : ((nm at_).kind == 33) = false := by simp [hkd]
  have e31 : ((nm at_).kind == 31) = false := by simp [hkd]
  have e32 : ((nm at_).kind == 32) = false := by simp [hkd]
  have e34 : ((nm at_).kind == 34) = true := by simp [hkd]
  have fin : Hid (exprnB (ndOf nm) at_ = (decide (1 ≤ (nm at_).nk) && exprsB (ndOf nm) at_ 0 (nm at_).nk && bareB (nm at_).toND false false false false 0)) := by
    show _ = _
    simp only [exprnB, ndOf, hkd]; rfl
  have HK : Hid _ := hkd
  clear hkd
  go_enter Tryz.func52, Tryz.ntmps52
  go_wp2_with (first
    | (go_at_call 73; refine (l3exprs_any _ _ _ nm _ _ _ _ hat hn (by omega) (by omega) (by omega) (by exact ha.onw (Onw.alloc _ _))).mono ?_; rintro e w1 ⟨rfl, rfl⟩)
    | (go_at_call 71; refine (l3kid_any _ _ _ nm _ _ _ hat hn (by omega) (by exact ha.onw (Onw.alloc _ _))).mono ?_; rintro e w1 ⟨rfl, rfl⟩)
    | (go_at_call 75; refine (l3many_any _ _).mono ?_; rintro e w1 ⟨rfl, rfl⟩)
    | (go_at_call 72; refine (l3bare_any (nm at_) _ _ _ _ _ _ (by decide)).mono ?_; rintro e w1 ⟨rfl, rfl⟩))
  all_goals go_ret
  all_goals exact ⟨ret_bool (by rw [fin.out]; simp_all [spreadB, ndOf, fnum] <;> omega), by first | exact Onw.alloc _ _ | exact (Onw.alloc _ _).trans (Onw.alloc _ _)⟩

set_option linter.unusedSimpArgs false in
set_option maxRecDepth 100000 in
set_option maxHeartbeats 2000000 in
theorem l3expression_38 (a : Option Addr) (n c : Nat) (nm : Nat → NM) (at_ : Nat) (w : World) (hat : at_ < n) (hn : n ≤ 1048576) (hk : (nm at_).nk ≤ 1048576) (hkd : (nm at_).kind = 38) (ha : NodesAt w a n nm) :
    Calls Tryz.prog 52 #[.slice a n c, .int .i64 at_] w fun e w' => e = .returned (.bool (exprnB (ndOf nm) at_)) ∧ Onw w w' := by
  obtain ⟨b, off, rfl, hc⟩ := ha.1 (by omega)
  obtain ⟨c0, c1, c2, c3, c4, c5, c6, c7⟩ := hc at_ hat
  clear hc
  have e20 : ((nm at_).kind == 20) = false := by simp [hkd]
  have e21 : ((nm at_).kind == 21) = false := by simp [hkd]
  have e22 : ((nm at_).kind == 22) = false := by simp [hkd]
  have e37 : ((nm at_).kind == 37) = false := by simp [hkd]
  have e23 : ((nm at_).kind == 23) = false := by simp [hkd]
  have e24 : ((nm at_).kind == 24) = false := by simp [hkd]
  have e25 : ((nm at_).kind == 25) = false := by simp [hkd]
  have e26 : ((nm at_).kind == 26) = false := by simp [hkd]
  have e27 : ((nm at_).kind == 27) = false := by simp [hkd]
  have e36 : ((nm at_).kind == 36) = false := by simp [hkd]
  have e28 : ((nm at_).kind == 28) = false := by simp [hkd]
  have e29 : ((nm at_).kind == 29) = false := by simp [hkd]
  have e30 : ((nm at_).kind == 30) = false := by simp [hkd]
  have e33 : ((nm at_).kind == 33) = false := by simp [hkd]
  have e31 : ((nm at_).kind == 31) = false := by simp [hkd]
  have e32 : ((nm at_).kind == 32) = false := by simp [hkd]
  have e34 : ((nm at_).kind == 34) = false := by simp [hkd]
  have e35 : ((nm at_).kind == 35) = false := by simp [hkd]
  have e38 : ((nm at_).kind == 38) = true := by simp [hkd]
  have fin : Hid (exprnB (ndOf nm) at_ = (((nm at_).nk : Int) == 1 && manyB (kidK (ndOf nm) at_ 0) && bareB (nm at_).toND false false false false 0)) := by
    show _ = _
    simp only [exprnB, ndOf, hkd]; rfl
  have HK : Hid _ := hkd
  clear hkd
  go_enter Tryz.func52, Tryz.ntmps52
  go_wp2_with (first
    | (go_at_call 73; refine (l3exprs_any _ _ _ nm _ _ _ _ hat hn (by omega) (by omega) (by omega) (by exact ha.onw (Onw.alloc _ _))).mono ?_; rintro e w1 ⟨rfl, rfl⟩)
    | (go_at_call 71; refine (l3kid_any _ _ _ nm _ _ _ hat hn (by omega) (by exact ha.onw (Onw.alloc _ _))).mono ?_; rintro e w1 ⟨rfl, rfl⟩)
    | (go_at_call 75; refine (l3many_any _ _).mono ?_; rintro e w1 ⟨rfl, rfl⟩)
    | (go_at_call 72; refine (l3bare_any (nm at_) _ _ _ _ _ _ (by decide)).mono ?_; rintro e w1 ⟨rfl, rfl⟩))
  all_goals go_ret
  all_goals exact ⟨ret_bool (by rw [fin.out]; simp_all [spreadB, ndOf, fnum] <;> omega), by first | exact Onw.alloc _ _ | exact (Onw.alloc _ _).trans (Onw.alloc _ _)⟩

set_option linter.unusedSimpArgs false in
set_option maxRecDepth 100000 in
set_option maxHeartbeats 2000000 in
theorem l3expression_x (a : Option Addr) (n c : Nat) (nm : Nat → NM) (at_ : Nat) (w : World) (hat : at_ < n) (hn : n ≤ 1048576) (hk : (nm at_).nk ≤ 1048576) (hkd : ∀ k : Int, k ∈ [(20 : Int), 21, 22, 37, 23, 24, 25, 26, 27, 36, 28, 29, 30, 33, 31, 32, 34, 35, 38] → (nm at_).kind ≠ k) (ha : NodesAt w a n nm) :
    Calls Tryz.prog 52 #[.slice a n c, .int .i64 at_] w fun e w' => e = .returned (.bool (exprnB (ndOf nm) at_)) ∧ Onw w w' := by
  obtain ⟨b, off, rfl, hc⟩ := ha.1 (by omega)
  obtain ⟨c0, c1, c2, c3, c4, c5, c6, c7⟩ := hc at_ hat
  clear hc
  have e20 : ((nm at_).kind == 20) = false := by have := hkd 20 (by simp); simpa using this
  have e21 : ((nm at_).kind == 21) = false := by have := hkd 21 (by simp); simpa using this
  have e22 : ((nm at_).kind == 22) = false := by have := hkd 22 (by simp); simpa using this
  have e37 : ((nm at_).kind == 37) = false := by have := hkd 37 (by simp); simpa using this
  have e23 : ((nm at_).kind == 23) = false := by have := hkd 23 (by simp); simpa using this
  have e24 : ((nm at_).kind == 24) = false := by have := hkd 24 (by simp); simpa using this
  have e25 : ((nm at_).kind == 25) = false := by have := hkd 25 (by simp); simpa using this
  have e26 : ((nm at_).kind == 26) = false := by have := hkd 26 (by simp); simpa using this
  have e27 : ((nm at_).kind == 27) = false := by have := hkd 27 (by simp); simpa using this
  have e36 : ((nm at_).kind == 36) = false := by have := hkd 36 (by simp); simpa using this
  have e28 : ((nm at_).kind == 28) = false := by have := hkd 28 (by simp); simpa using this
  have e29 : ((nm at_).kind == 29) = false := by have := hkd 29 (by simp); simpa using this
  have e30 : ((nm at_).kind == 30) = false := by have := hkd 30 (by simp); simpa using this
  have e33 : ((nm at_).kind == 33) = false := by have := hkd 33 (by simp); simpa using this
  have e31 : ((nm at_).kind == 31) = false := by have := hkd 31 (by simp); simpa using this
  have e32 : ((nm at_).kind == 32) = false := by have := hkd 32 (by simp); simpa using this
  have e34 : ((nm at_).kind == 34) = false := by have := hkd 34 (by simp); simpa using this
  have e35 : ((nm at_).kind == 35) = false := by have := hkd 35 (by simp); simpa using this
  have e38 : ((nm at_).kind == 38) = false := by have := hkd 38 (by simp); simpa using this
  have fin : Hid (exprnB (ndOf nm) at_ = false) := by
    show _ = _
    simp only [exprnB, ndOf]
    simp only [beq_eq_false_iff_ne, ne_eq] at e20 e21 e22 e37 e23 e24 e25 e26 e27 e36 e28 e29 e30 e33 e31 e32 e34 e35 e38
    simp [e20, e21, e22, e37, e23, e24, e25, e26, e27, e36, e28, e29, e30, e33, e31, e32, e34, e35, e38]
  have HK : Hid _ := hkd
  clear hkd
  go_enter Tryz.func52, Tryz.ntmps52
  go_wp2_with (first
    | (go_at_call 73; refine (l3exprs_any _ _ _ nm _ _ _ _ hat hn (by omega) (by omega) (by omega) (by exact ha.onw (Onw.alloc _ _))).mono ?_; rintro e w1 ⟨rfl, rfl⟩)
    | (go_at_call 71; refine (l3kid_any _ _ _ nm _ _ _ hat hn (by omega) (by exact ha.onw (Onw.alloc _ _))).mono ?_; rintro e w1 ⟨rfl, rfl⟩)
    | (go_at_call 75; refine (l3many_any _ _).mono ?_; rintro e w1 ⟨rfl, rfl⟩)
    | (go_at_call 72; refine (l3bare_any (nm at_) _ _ _ _ _ _ (by decide)).mono ?_; rintro e w1 ⟨rfl, rfl⟩))
  all_goals go_ret
  all_goals exact ⟨ret_bool (by rw [fin.out]), by first | exact Onw.alloc _ _ | exact (Onw.alloc _ _).trans (Onw.alloc _ _)⟩
end Go.Proofs.YtnokgdgikdgaeaaGreat

namespace Go.Proofs.YtnokgdgikdgaeaaGreat
open Go.RowKit
attribute [local go_sem] run_store_float

set_option linter.unusedSimpArgs false in
set_option maxRecDepth 100000 in
set_option maxHeartbeats 2000000 in
theorem l3expression_35 (a : Option Addr) (n c : Nat) (nm : Nat → NM) (at_ : Nat) (w : World) (hat : at_ < n) (hn : n ≤ 1048576) (hk : (nm at_).nk ≤ 1048576) (hkd : (nm at_).kind = 35) (ha : NodesAt w a n nm) :
    Calls Tryz.prog 52 #[.slice a n c, .int .i64 at_] w fun e w' => e = .returned (.bool (exprnB (ndOf nm) at_)) ∧ Onw w w' := by
  obtain ⟨b, off, rfl, hc⟩ := ha.1 (by omega)
  obtain ⟨c0, c1, c2, c3, c4, c5, c6, c7⟩ := hc at_ hat
  clear hc
  have e20 : ((nm at_).kind == 20) = false := by simp [hkd]
  have e21 : ((nm at_).kind == 21) = false := by simp [hkd]
  have e22 : ((nm at_).kind == 22) = false := by simp [hkd]
  have e37 : ((nm at_).kind == 37) = false := by simp [hkd]
  have e23 : ((nm at_).kind == 23) = false := by simp [hkd]
  have e24 : ((nm at_).kind == 24) = false := by simp [hkd]
  have e25 : ((nm at_).kind == 25) = false := by simp [hkd]
  have e26 : ((nm at_).kind == 26) = false := by simp [hkd]
  have e27 : ((nm at_).kind == 27) = false := by simp [hkd]
  have e36 : ((nm at_).kind == 36) = false := by simp [hkd]
  have e28 : ((nm at_).kind == 28) = false := by simp [hkd]
  have e29 : ((nm at_).kind == 29) = false := by simp [hkd]
  have e30 : ((nm at_).kind == 30) = false := by simp [hkd]
  have e33 : ((nm at_).kind == 33) = false := by simp [hkd]
  have e31 : ((nm at_).kind == 31) = false := by simp [hkd]
  have e32 : ((nm at_).kind == 32) = false := by simp [hkd]
  have e34 : ((nm at_).kind == 34) = false := by simp [hkd]
  have e35 : ((nm at_).kind == 35) = true := by simp [hkd]
  have o0 : ((nm at_).op == 0) = true ∧ ((nm at_).op == 1) = false ∨ ((nm at_).op == 0) = false ∧ ((nm at_).op == 1) = true ∨ ((nm at_).op == 0) = false ∧ ((nm at_).op == 1) = false := by simp; omega
  have fin : Hid (exprnB (ndOf nm) at_ = (((nm at_).nk : Int) % 2 == 0 && exprsB (ndOf nm) at_ 0 (nm at_).nk && spreadB (ndOf nm) at_ && bareB (nm at_).toND true false false false 0)) := by
    show _ = _
    simp only [exprnB, ndOf, hkd]; rfl
  have HK : Hid _ := hkd
  clear hkd
  rcases o0 with ⟨o0, o1⟩ | ⟨o0, o1⟩ | ⟨o0, o1⟩
  all_goals
    go_enter Tryz.func52, Tryz.ntmps52
    go_wp2_with (first
      | (go_at_call 73; refine (l3exprs_any _ _ _ nm _ _ _ _ hat hn (by omega) (by omega) (by omega) (by exact ha.onw (Onw.alloc _ _))).mono ?_; rintro e w1 ⟨rfl, rfl⟩)
      | (go_at_call 71; refine (l3kid_any _ _ _ nm _ _ _ hat hn (by omega) (by exact ha.onw (Onw.alloc _ _))).mono ?_; rintro e w1 ⟨rfl, rfl⟩)
      | (go_at_call 75; refine (l3many_any _ _).mono ?_; rintro e w1 ⟨rfl, rfl⟩)
      | (go_at_call 72; refine (l3bare_any (nm at_) _ _ _ _ _ _ (by decide)).mono ?_; rintro e w1 ⟨rfl, rfl⟩))
    all_goals go_ret
    all_goals exact ⟨ret_bool (by rw [fin.out]; simp_all [spreadB, ndOf, fnum] <;> first | omega | (intro h; exact absurd (of_decide_eq_true h) (by omega))), by first | exact Onw.alloc _ _ | exact (Onw.alloc _ _).trans (Onw.alloc _ _)⟩
end Go.Proofs.YtnokgdgikdgaeaaGreat

namespace Go.Proofs.YtnokgdgikdgaeaaGreat
open Go.RowKit
attribute [local go_sem] run_store_float

theorem l3statement_any (a : Option Addr) (n c : Nat) (nm : Nat → NM) (at_ : Nat) (w : World) (hat : at_ < n) (hn : n ≤ 1048576) (hk : (nm at_).nk ≤ 1048576) (hs : statB (nm at_).kind = true) (ha : NodesAt w a n nm) :
    Calls Tryz.prog 51 #[.slice a n c, .int .i64 at_] w fun e w' => e = .returned (.bool (stmtB (ndOf nm) at_)) ∧ Onw w w' := by
  have hs' : 1 ≤ (nm at_).kind ∧ (nm at_).kind ≤ 14 := by simpa [statB] using hs
  by_cases h1 : (nm at_).kind = 1
  · exact l3statement_1 a n c nm at_ w hat hn hk h1 ha
  by_cases h2 : (nm at_).kind = 2
  · exact l3statement_2 a n c nm at_ w hat hn hk h2 ha
  by_cases h3 : (nm at_).kind = 3
  · exact l3statement_3 a n c nm at_ w hat hn hk h3 ha
  by_cases h4 : (nm at_).kind = 4
  · exact l3statement_4 a n c nm at_ w hat hn hk h4 ha
  by_cases h5 : (nm at_).kind = 5
  · exact l3statement_5 a n c nm at_ w hat hn hk h5 ha
  by_cases h6 : (nm at_).kind = 6
  · exact l3statement_6 a n c nm at_ w hat hn hk h6 ha
  by_cases h7 : (nm at_).kind = 7
  · exact l3statement_7 a n c nm at_ w hat hn hk h7 ha
  by_cases h8 : (nm at_).kind = 8
  · exact l3statement_8 a n c nm at_ w hat hn hk h8 ha
  by_cases h9 : (nm at_).kind = 9
  · exact l3statement_9 a n c nm at_ w hat hn hk h9 ha
  by_cases h10 : (nm at_).kind = 10
  · exact l3statement_10 a n c nm at_ w hat hn hk h10 ha
  by_cases h11 : (nm at_).kind = 11
  · exact l3statement_11 a n c nm at_ w hat hn hk h11 ha
  by_cases h12 : (nm at_).kind = 12
  · exact l3statement_12 a n c nm at_ w hat hn hk h12 ha
  by_cases h13 : (nm at_).kind = 13
  · exact l3statement_13 a n c nm at_ w hat hn hk h13 ha
  exact l3statement_14 a n c nm at_ w hat hn hk (by omega) ha

theorem l3expression_any (a : Option Addr) (n c : Nat) (nm : Nat → NM) (at_ : Nat) (w : World) (hat : at_ < n) (hn : n ≤ 1048576) (hk : (nm at_).nk ≤ 1048576) (ha : NodesAt w a n nm) :
    Calls Tryz.prog 52 #[.slice a n c, .int .i64 at_] w fun e w' => e = .returned (.bool (exprnB (ndOf nm) at_)) ∧ Onw w w' := by
  by_cases h20 : (nm at_).kind = 20
  · exact l3expression_20 a n c nm at_ w hat hn hk h20 ha
  by_cases h21 : (nm at_).kind = 21
  · exact l3expression_21 a n c nm at_ w hat hn hk h21 ha
  by_cases h22 : (nm at_).kind = 22
  · exact l3expression_22 a n c nm at_ w hat hn hk h22 ha
  by_cases h23 : (nm at_).kind = 23
  · exact l3expression_23 a n c nm at_ w hat hn hk h23 ha
  by_cases h24 : (nm at_).kind = 24
  · exact l3expression_24 a n c nm at_ w hat hn hk h24 ha
  by_cases h25 : (nm at_).kind = 25
  · exact l3expression_25 a n c nm at_ w hat hn hk h25 ha
  by_cases h26 : (nm at_).kind = 26
  · exact l3expression_26 a n c nm at_ w hat hn hk h26 ha
  by_cases h27 : (nm at_).kind = 27
  · exact l3expression_27 a n c nm at_ w hat hn hk h27 ha
  by_cases h28 : (nm at_).kind = 28
  · exact l3expression_28 a n c nm at_ w hat hn hk h28 ha
  by_cases h29 : (nm at_).kind = 29
  · exact l3expression_29 a n c nm at_ w hat hn hk h29 ha
  by_cases h30 : (nm at_).kind = 30
  · exact l3expression_30 a n c nm at_ w hat hn hk h30 ha
  by_cases h31 : (nm at_).kind = 31
  · exact l3expression_31 a n c nm at_ w hat hn hk h31 ha
  by_cases h32 : (nm at_).kind = 32
  · exact l3expression_32 a n c nm at_ w hat hn hk h32 ha
  by_cases h33 : (nm at_).kind = 33
  · exact l3expression_33 a n c nm at_ w hat hn hk h33 ha
  by_cases h34 : (nm at_).kind = 34
  · exact l3expression_34 a n c nm at_ w hat hn hk h34 ha
  by_cases h35 : (nm at_).kind = 35
  · exact l3expression_35 a n c nm at_ w hat hn hk h35 ha
  by_cases h36 : (nm at_).kind = 36
  · exact l3expression_36 a n c nm at_ w hat hn hk h36 ha
  by_cases h37 : (nm at_).kind = 37
  · exact l3expression_37 a n c nm at_ w hat hn hk h37 ha
  by_cases h38 : (nm at_).kind = 38
  · exact l3expression_38 a n c nm at_ w hat hn hk h38 ha
  refine l3expression_x a n c nm at_ w hat hn hk ?_ ha
  intro k hk e
  simp at hk
  omega
end Go.Proofs.YtnokgdgikdgaeaaGreat

namespace Go.Proofs.YtnokgdgikdgaeaaGreat
open Go.RowKit
attribute [local go_sem] run_store_float

set_option maxRecDepth 100000 in
set_option maxHeartbeats 2000000 in
theorem l3shape_any (a : Option Addr) (n c : Nat) (nm : Nat → NM) (at_ : Nat) (w : World) (hat : at_ < n) (hn : n ≤ 1048576) (hk : (nm at_).nk ≤ 1048576) (ha : NodesAt w a n nm) :
    Calls Tryz.prog 32 #[.slice a n c, .int .i64 at_] w fun e w' => e = .returned (.bool (shapeB (ndOf nm) at_)) ∧ Onw w w' := by
  obtain ⟨b, off, rfl, hc⟩ := ha.1 (by omega)
  obtain ⟨c0, c1, c2, c3, c4, c5, c6, c7⟩ := hc at_ hat
  clear hc
  by_cases h200 : 200 < (nm at_).nk
  · have fin : Hid (shapeB (ndOf nm) at_ = false) := by
      show _ = _
      unfold shapeB ndOf; rw [decide_eq_false (by omega)]; rfl
    go_enter Tryz.func32, Tryz.ntmps32
    go_wp2_with fail
    go_ret
    exact ⟨ret_bool fin.out.symm, Onw.alloc _ _⟩
  · have fin : Hid (shapeB (ndOf nm) at_ = (allB (kidsB (ndOf nm) at_) 0 (nm at_).nk &&
        (if statB (nm at_).kind then decide (1 ≤ (nm at_).line) && decide ((nm at_).line ≤ 100000) && stmtB (ndOf nm) at_ else (nm at_).line == 0 && exprnB (ndOf nm) at_))) := by
      show _ = _
      unfold shapeB; rw [decide_eq_true (show (ndOf nm at_).nk ≤ 200 from by unfold ndOf; omega), Bool.true_and]; rfl
    have hI := (ha.2 at_ hat).2
    obtain ⟨KA, hKA⟩ : ∃ KA, (nm at_).ka = KA := ⟨_, rfl⟩
    rw [hKA] at c7 hI
    clear hKA
    go_enter Tryz.func32, Tryz.ntmps32
    go_wp2_with fail
    go_loop [19] (fun i => ∃ k : Nat, k ≤ (nm at_).nk ∧ i = .int .i64 k ∧ allB (kidsB (ndOf nm) at_) 0 (nm at_).nk = allB (kidsB (ndOf nm) at_) k ((nm at_).nk - k)) (fun i => (nm at_).nk - (intOf i).toNat)
    case atStart => exact ⟨0, Nat.zero_le _, rfl, rfl⟩
    case round =>
      obtain ⟨k, hk1, rfl, hr⟩ := hrel
      have HR : Hid _ := hr
      clear hr
      by_cases hlt : k < (nm at_).nk
      · obtain ⟨kb, ko, rfl, hcc⟩ := hI (by omega)
        have hki := hcc k hlt
        have hkb := cell_lt hki
        clear hcc
        have hs : Hid (allB (kidsB (ndOf nm) at_) k ((nm at_).nk - k) = (kidsB (ndOf nm) at_ k && allB (kidsB (ndOf nm) at_) (k + 1) ((nm at_).nk - (k + 1)))) := by
          rw [show (nm at_).nk - k = ((nm at_).nk - (k + 1)) + 1 from by omega]; rfl
        by_cases hx : 0 ≤ (nm at_).kd k ∧ (nm at_).kd k < at_
        · have hb : Hid (kidsB (ndOf nm) at_ k = true) := by show _ = _; unfold kidsB ndOf; simp; omega
          obtain ⟨x1, x2⟩ := hx
          go_wp2_with fail
          go_round
          case rel => exact ⟨k + 1, by omega, by go_num, by rw [HR.out, hs.out, hb.out]; rfl⟩
          case measure => simp [intOf]; omega
        · have hb : Hid (kidsB (ndOf nm) at_ k = false) := by show _ = _; unfold kidsB ndOf; simp; omega
          have hx' : (nm at_).kd k < 0 ∨ (at_ : Int) ≤ (nm at_).kd k := by omega
          clear hx
          rcases hx' with hx | hx
          all_goals
            go_wp2_with fail
            go_ret
            exact ⟨ret_bool (by rw [fin.out, HR.out, hs.out, hb.out]; rfl), Onw.alloc _ _⟩
      · have hs : Hid (allB (kidsB (ndOf nm) at_) k ((nm at_).nk - k) = true) := by
          rw [show (nm at_).nk - k = 0 from by omega]; rfl
        have fin2 : Hid (shapeB (ndOf nm) at_ = (if statB (nm at_).kind then decide (1 ≤ (nm at_).line) && decide ((nm at_).line ≤ 100000) && stmtB (ndOf nm) at_ else (nm at_).line == 0 && exprnB (ndOf nm) at_)) := by
          show _ = _
          rw [fin.out, HR.out, hs.out, Bool.true_and]
        clear fin HR hs
        go_wp2_with fail
        refine (l3stat_any _ _).mono ?_
        rintro e w1 ⟨rfl, rfl⟩
        cases hx : statB (nm at_).kind
        · have f3 : Hid (shapeB (ndOf nm) at_ = ((nm at_).line == 0 && exprnB (ndOf nm) at_)) := by show _ = _; rw [fin2.out, hx]; rfl
          have e0 : ((nm at_).line == 0) = true ∨ ((nm at_).line == 0) = false := by cases ((nm at_).line == 0) <;> simp
          rcases e0 with e0 | e0
          · go_wp2_with fail
            refine (l3expression_any _ _ _ nm _ _ hat hn hk (by exact ha.onw (Onw.alloc _ _))).mono ?_
            rintro e w1 ⟨rfl, hb⟩
            go_wp2_with fail
            go_ret
            exact ⟨ret_bool (by rw [f3.out, e0]; rfl), (Onw.alloc _ _).trans hb⟩
          · go_wp2_with fail
            go_ret
            exact ⟨ret_bool (by rw [f3.out, e0]; rfl), Onw.alloc _ _⟩
        · have f3 : Hid (shapeB (ndOf nm) at_ = (decide (1 ≤ (nm at_).line) && decide ((nm at_).line ≤ 100000) && stmtB (ndOf nm) at_)) := by show _ = _; rw [fin2.out, hx]; rfl
          by_cases l1 : 1 ≤ (nm at_).line
          · by_cases l2 : (nm at_).line ≤ 100000
            · go_wp2_with fail
              refine (l3statement_any _ _ _ nm _ _ hat hn hk hx (by exact ha.onw (Onw.alloc _ _))).mono ?_
              rintro e w1 ⟨rfl, hb⟩
              go_wp2_with fail
              go_ret
              exact ⟨ret_bool (by rw [f3.out, decide_eq_true l1, decide_eq_true l2]; rfl), (Onw.alloc _ _).trans hb⟩
            · go_wp2_with fail
              go_ret
              exact ⟨ret_bool (by rw [f3.out, decide_eq_true l1, decide_eq_false (by omega)]; rfl), Onw.alloc _ _⟩
          · go_wp2_with fail
            go_ret
            exact ⟨ret_bool (by rw [f3.out, decide_eq_false (by omega)]; rfl), Onw.alloc _ _⟩

set_option maxHeartbeats 400000 in
theorem l3place_any (a : Option Addr) (n c : Nat) (f : Nat → Int) (v : Int) (w : World) (hn : n ≤ 1048576) (ha : IntsAt w a n f) :
    Calls Tryz.prog 76 #[.slice a n c, .int .i64 v] w fun e w' => e = .returned (.int .i64 (placeI f v 0 n)) ∧ w' = w := by
  go_enter Tryz.func76, Tryz.ntmps76
  go_wp2
  go_loop [9] (fun i => ∃ k : Nat, k ≤ n ∧ i = .int .i64 k ∧ placeI f v 0 n = placeI f v k (n - k)) (fun i => n - (intOf i).toNat)
  case atStart => exact ⟨0, Nat.zero_le _, rfl, rfl⟩
  case round =>
    obtain ⟨k, hk1, rfl, hr⟩ := hrel
    have HR : Hid _ := hr
    clear hr
    by_cases hlt : k < n
    · obtain ⟨b, off, rfl, hc⟩ := ha (by omega)
      have hck := hc k hlt
      clear hc
      have hs : Hid (placeI f v k (n - k) = if f k = v then (k : Int) else placeI f v (k + 1) (n - (k + 1))) := by
        rw [show n - k = (n - (k + 1)) + 1 from by omega]; rfl
      by_cases hx : f k = v
      · have hx' : (f k == v) = true := by simp [hx]
        have HX : Hid _ := hx
        clear hx
        go_wp2
        go_ret
        exact ⟨ret_int (by rw [HR.out, hs.out, if_pos HX.out]), rfl⟩
      · have hx' : (f k == v) = false := by simp [hx]
        go_wp2
        go_round
        case rel => exact ⟨k + 1, by omega, by go_num, by rw [HR.out, hs.out, if_neg hx]⟩
        case measure => simp [intOf]; omega
    · have hs : Hid (placeI f v k (n - k) = -1) := by
        rw [show n - k = 0 from by omega]; rfl
      go_wp2
      go_ret
      exact ⟨ret_int (by rw [HR.out, hs.out]), rfl⟩

set_option maxHeartbeats 1000000 in
theorem l3declares_any (m : NM) (v : Int) (w : World) (hr : m.nr ≤ 1048576) (ha : IntsAt w m.ra m.nr m.rf) :
    Calls Tryz.prog 77 #[.agg #[.int .i64 m.kind, .int .i64 m.line, .int .i64 m.op, .int .i64 m.num, .float .f64 m.flt, .string m.str, .slice m.ra m.nr m.rc, .slice m.ka m.nk m.kc], .int .i64 v] w fun e w' => e = .returned (.bool (declB m.toND v)) ∧ w' = w.alloc (.cells #[.int .i64 m.kind, .int .i64 m.line, .int .i64 m.op, .int .i64 m.num, .float .f64 m.flt, .string m.str, .slice m.ra m.nr m.rc, .slice m.ka m.nk m.kc] 71) := by
  have hx : (m.kind != 2) = false ∨ (m.kind != 2) = true ∧ (m.kind != 7) = false ∨ (m.kind != 2) = true ∧ (m.kind != 7) = true ∧ (m.kind != 8) = false ∨ (m.kind != 2) = true ∧ (m.kind != 7) = true ∧ (m.kind != 8) = true ∧ (m.kind != 12) = false ∨ (m.kind != 2) = true ∧ (m.kind != 7) = true ∧ (m.kind != 8) = true ∧ (m.kind != 12) = true := by
    simp; omega
  by_cases hd : (m.kind == 2 || m.kind == 7 || m.kind == 8 || m.kind == 12) = true
  · have fin : Hid (declB m.toND v = decide (0 ≤ placeI m.rf v 0 m.nr)) := by show _ = _; unfold declB; rw [hd]; rfl
    rcases hx with e2 | ⟨e2, e7⟩ | ⟨e2, e7, e8⟩ | ⟨e2, e7, e8, e12⟩ | ⟨e2, e7, e8, e12⟩
    rotate_right
    · exfalso; simp at hd e2 e7 e8 e12; omega
    all_goals
      clear hd
      go_enter Tryz.func77, Tryz.ntmps77
      go_wp2_with fail
      refine (l3place_any _ _ _ m.rf _ _ hr (by exact ha.onw (Onw.alloc _ _))).mono ?_
      rintro e w1 ⟨rfl, rfl⟩
      go_wp2_with fail
      go_ret
      exact ⟨ret_bool fin.out.symm, rfl⟩
  · have hd' : (m.kind == 2 || m.kind == 7 || m.kind == 8 || m.kind == 12) = false := by simpa using hd
    have fin : Hid (declB m.toND v = false) := by show _ = _; unfold declB; rw [hd']; rfl
    rcases hx with e2 | ⟨e2, e7⟩ | ⟨e2, e7, e8⟩ | ⟨e2, e7, e8, e12⟩ | ⟨e2, e7, e8, e12⟩
    iterate 4 (exfalso; simp_all)
    clear hd hd'
    go_enter Tryz.func77, Tryz.ntmps77
    go_wp2_with fail
    go_ret
    exact ⟨ret_bool fin.out.symm, rfl⟩

set_option maxHeartbeats 400000 in
theorem l3name_any (s : ByteArray) (least : Int) (w : World) : Calls Tryz.prog 49 #[.string s, .int .i64 least] w fun e w' => e = .returned (.bool (nameB s least)) ∧ w' = w := by
  go_enter Tryz.func49, Tryz.ntmps49
  go_wp2
  all_goals go_ret
  all_goals exact ⟨ret_bool (by simp [nameB, *] <;> omega), rfl⟩

set_option maxHeartbeats 400000 in
theorem l3fault_any (i j k : Int) (w : World) : Calls Tryz.prog 30 #[.int .i64 i, .int .i64 j, .int .i64 k] w fun e w' => e = .returned (.agg #[.int .i64 i, .int .i64 j, .int .i64 k]) ∧ Onw w w' := by
  go_enter Tryz.func30, Tryz.ntmps30
  go_wp2
  exact bodyPost_ret (v := .agg #[.int .i64 i, .int .i64 j, .int .i64 k]) (by simp [results, Tryz.results30, go_sem]) rfl ⟨rfl, by first | exact Onw.alloc _ _ | exact (Onw.alloc _ _).trans (Onw.alloc _ _)⟩
end Go.Proofs.YtnokgdgikdgaeaaGreat

namespace Go.Proofs.YtnokgdgikdgaeaaGreat
open Go.RowKit
attribute [local go_sem] run_store_float

/-- The two blocks of a tree, and the box that holds them. -/
structure GrowAt (w0 w : World) (n p g1 g2 : Nat) (c1 c2 : Array Value) : Prop where
  onw : Onw w0 w
  res : Blk w w0.heap.size 67 #[.slice none 0 0, .slice none 0 0]
  box : Blk w p 67 #[.slice (some ⟨g1, 0, none⟩) n n, .slice (some ⟨g2, 0, none⟩) n n]
  b1 : Blk w g1 3 c1
  b2 : Blk w g2 3 c2
  s1 : c1.size = n
  s2 : c2.size = n
  d1 : w0.heap.size < p ∧ w0.heap.size < g1 ∧ w0.heap.size < g2
  d2 : p ≠ g1 ∧ p ≠ g2 ∧ g1 ≠ g2

theorem GrowAt.set1 {w0 w : World} {n p g1 g2 : Nat} {c1 c2 : Array Value} (G : GrowAt w0 w n p g1 g2 c1 c2) (i : Nat) (v : Value) : GrowAt w0 (w.setCell ⟨g1, i, none⟩ v) n p g1 g2 (c1.setIfInBounds i v) c2 := by
  obtain ⟨h1, h2, h3, h4, h5, h6, h7, h8, h9⟩ := G
  have K := kept_setCell w g1 i v
  exact ⟨below_set h1 (by omega) v, h2.kept K (by omega), h3.kept K (by omega), h4.set i v, h5.kept K (by omega), by simpa using h6, h7, h8, h9⟩
theorem GrowAt.set2 {w0 w : World} {n p g1 g2 : Nat} {c1 c2 : Array Value} (G : GrowAt w0 w n p g1 g2 c1 c2) (i : Nat) (v : Value) : GrowAt w0 (w.setCell ⟨g2, i, none⟩ v) n p g1 g2 c1 (c2.setIfInBounds i v) := by
  obtain ⟨h1, h2, h3, h4, h5, h6, h7, h8, h9⟩ := G
  have K := kept_setCell w g2 i v
  exact ⟨below_set h1 (by omega) v, h2.kept K (by omega), h3.kept K (by omega), h4.kept K (by omega), h5.set i v, h6, by simpa using h7, h8, h9⟩
theorem GrowAt.drew {w0 w : World} {n p g1 g2 : Nat} {c1 c2 : Array Value} (G : GrowAt w0 w n p g1 g2 c1 c2) : GrowAt w0 w.drew n p g1 g2 c1 c2 := by
  obtain ⟨h1, h2, h3, h4, h5, h6, h7, h8, h9⟩ := G
  exact ⟨Below.drew h1, h2, h3, h4, h5, h6, h7, h8, h9⟩

theorem blk4 (w : World) (o0 o1 o2 o3 : Obj) :
    ((((w.alloc o0).alloc o1).alloc o2).alloc o3).drew.heap[w.heap.size]? = some o0 ∧ ((((w.alloc o0).alloc o1).alloc o2).alloc o3).drew.heap[w.heap.size + 1]? = some o1 ∧
    ((((w.alloc o0).alloc o1).alloc o2).alloc o3).drew.heap[w.heap.size + 1 + 1]? = some o2 ∧ ((((w.alloc o0).alloc o1).alloc o2).alloc o3).drew.heap[w.heap.size + 1 + 1 + 1]? = some o3 ∧
    Onw w ((((w.alloc o0).alloc o1).alloc o2).alloc o3).drew := by
  refine ⟨?_, ?_, ?_, ?_, Below.drew ((((Onw.alloc _ _).trans (Onw.alloc _ _)).trans (Onw.alloc _ _)).trans (Onw.alloc _ _))⟩
  all_goals
    show ((((w.heap.push o0).push o1).push o2).push o3)[_]? = _
    simp only [Array.getElem?_push, Array.size_push]
    repeat (first | rw [if_pos trivial] | rw [if_neg (by omega)])

set_option maxRecDepth 100000 in
set_option maxHeartbeats 1000000 in
theorem l3grow_any (a : Option Addr) (n c : Nat) (nm : Nat → NM) (w : World) (hn0 : 0 < n) (hn : n ≤ 1048576) (hkn : ∀ i, i < n → (nm i).nk ≤ 1048576) (hks : ∀ i, i < n → ∀ j, j < (nm i).nk → 0 ≤ (nm i).kd j ∧ (nm i).kd j < i) (ha : NodesAt w a n nm) :
    Calls Tryz.prog 33 #[.slice a n c] w fun e w' => ∃ a1 a2, e = .returned (.agg #[.slice a1 n n, .slice a2 n n]) ∧ Onw w w' ∧ IntsAt w' a1 n (parE (ndOf nm) n) ∧ IntsAt w' a2 n (depE (ndOf nm) n) ∧ Frm w.heap.size a1 ∧ Frm w.heap.size a2 := by
  have hmk := run_make_ints n hn
  go_enter Tryz.func33, Tryz.ntmps33
  go_upto_region 1 with fail
  go_cut [3] (fun p wc => ∃ p' g1 g2 c1 c2, p = .pointer (some ⟨p', 0, none⟩) ∧ GrowAt w wc n p' g1 g2 c1 c2 ∧ ∀ i, i < n → c2[i]? = some (.int .i64 0))
  case first =>
    go_region
    all_goals (go_wp2; go_meet)
    all_goals
      have H4 := blk4 w
      first
        | exact ⟨_, _, _, _, _, rfl, ⟨(H4 _ _ _ _).2.2.2.2, (H4 _ _ _ _).1, (H4 _ _ _ _).2.2.2.1, (H4 _ _ _ _).2.1, (H4 _ _ _ _).2.2.1, size_madeCells _ _, size_madeCells _ _, by omega, by omega⟩, fun i hi => made_int n i hi⟩
        | exact ⟨_, _, _, _, _, rfl, ⟨(H4 _ _ _ _).2.2.2.2, (H4 _ _ _ _).1, (H4 _ _ _ _).2.2.2.1, (H4 _ _ _ _).2.2.1, (H4 _ _ _ _).2.1, size_madeCells _ _, size_madeCells _ _, by omega, by omega⟩, fun i hi => made_int n i hi⟩
        | exact ⟨_, _, _, _, _, rfl, ⟨(H4 _ _ _ _).2.2.2.2, (H4 _ _ _ _).1, (H4 _ _ _ _).2.2.1, (H4 _ _ _ _).2.1, (H4 _ _ _ _).2.2.2.1, size_madeCells _ _, size_madeCells _ _, by omega, by omega⟩, fun i hi => made_int n i hi⟩
        | exact ⟨_, _, _, _, _, rfl, ⟨(H4 _ _ _ _).2.2.2.2, (H4 _ _ _ _).1, (H4 _ _ _ _).2.2.1, (H4 _ _ _ _).2.2.2.1, (H4 _ _ _ _).2.1, size_madeCells _ _, size_madeCells _ _, by omega, by omega⟩, fun i hi => made_int n i hi⟩
        | exact ⟨_, _, _, _, _, rfl, ⟨(H4 _ _ _ _).2.2.2.2, (H4 _ _ _ _).1, (H4 _ _ _ _).2.1, (H4 _ _ _ _).2.2.1, (H4 _ _ _ _).2.2.2.1, size_madeCells _ _, size_madeCells _ _, by omega, by omega⟩, fun i hi => made_int n i hi⟩
        | exact ⟨_, _, _, _, _, rfl, ⟨(H4 _ _ _ _).2.2.2.2, (H4 _ _ _ _).1, (H4 _ _ _ _).2.1, (H4 _ _ _ _).2.2.2.1, (H4 _ _ _ _).2.2.1, size_madeCells _ _, size_madeCells _ _, by omega, by omega⟩, fun i hi => made_int n i hi⟩
  case rest =>
    obtain ⟨p, g1, g2, c1, c2, rfl, G, hz⟩ := hcut
    have HZ : Hid _ := hz
    clear hz
    clear hmk
    go_wp2_with fail
    go_loopw [19] (fun i wr => ∃ k : Nat, k ≤ n ∧ i = .int .i64 k ∧ ∃ c1, GrowAt w wr n p g1 g2 c1 c2 ∧ ∀ i, i < k → c1[i]? = some (.int .i64 (-2))) (fun i _ => n - (intOf i).toNat)
    case atStart => exact ⟨0, Nat.zero_le _, rfl, c1, G, fun i hi => by omega⟩
    case round =>
      obtain ⟨k, hk, rfl, c1, G, hC⟩ := hrel
      have HC : Hid _ := hC
      clear hC
      have bx := G.box.cell
      have f1 := G.b1.free
      by_cases hlt : k < n
      · obtain ⟨x0, gx⟩ := G.b1.some (j := k) (by rw [G.s1]; exact hlt)
        go_wp2_with fail
        go_roundw
        case rel =>
          refine ⟨k + 1, by omega, by go_num, _, G.set1 k _, fun i hi => ?_⟩
          by_cases e : k = i
          · subst e; rw [get_set_same (by rw [G.s1]; exact hlt)]
          · rw [get_set_other e]; exact HC.out i (by omega)
        case measure => simp [intOf]; omega
      · go_wp2_with fail
        have : k = n := by omega
        subst this
        have A0 : Arr c1 k (parN (ndOf nm) 0) := ⟨G.s1, HC.out⟩
        clear bx f1 HC hlt hk
        go_loopw [29] (fun i wr => ∃ i' : Nat, i' ≤ k ∧ i = .int .i64 i' ∧ ∃ c1, GrowAt w wr k p g1 g2 c1 c2 ∧ Arr c1 k (parN (ndOf nm) i')) (fun i _ => k - (intOf i).toNat)
        case atStart => exact ⟨0, Nat.zero_le _, rfl, c1, G, A0⟩
        case round =>
          clear G A0
          obtain ⟨i, hi, rfl, c1, G, A⟩ := hrel
          by_cases hlt : i < k
          · obtain ⟨b, off, rfl, hc⟩ := (ha.onw G.onw).1 (by omega)
            have c7 := (hc i hlt).c7
            have hI := (ha.2 i hlt).2
            have hkn' := hkn i hlt
            have HK : Hid _ := hks i hlt
            clear hc
            obtain ⟨KA, hKA⟩ : ∃ KA, (nm i).ka = KA := ⟨_, rfl⟩
            rw [hKA] at c7 hI
            clear hKA
            go_wp2_with fail
            clear c7
            go_loopw [38] (fun j wr => ∃ j' : Nat, j' ≤ (nm i).nk ∧ j = .int .i64 j' ∧ ∃ c1, GrowAt w wr k p g1 g2 c1 c2 ∧ Arr c1 k (par1 (ndOf nm) (parN (ndOf nm) i) i j')) (fun j _ => (nm i).nk - (intOf j).toNat)
            case atStart => exact ⟨0, Nat.zero_le _, rfl, c1, G, A⟩
            case round =>
              clear G A
              obtain ⟨j, hj, rfl, c1, G, A⟩ := hrel
              by_cases hjt : j < (nm i).nk
              · obtain ⟨kb, ko, rfl, hcc⟩ := hI.onw G.onw (by omega)
                have hki := hcc j hjt
                clear hcc
                obtain ⟨q0, q1⟩ := HK.out j hjt
                obtain ⟨q, hq⟩ := Int.eq_ofNat_of_zero_le q0
                rw [hq] at hki q1
                have HQ : Hid _ := hq
                clear hq q0
                have bx := G.box.cell
                have f1 := G.b1.free
                have g0 : wr.cell? ⟨g1, q, none⟩ = some (.int .i64 (par1 (ndOf nm) (parN (ndOf nm) i) i j q)) := by rw [G.b1.cell]; exact A.2 q (by omega)
                have e0 : (par1 (ndOf nm) (parN (ndOf nm) i) i j q == -2) = true ∨ (par1 (ndOf nm) (parN (ndOf nm) i) i j q == -2) = false := by cases (par1 (ndOf nm) (parN (ndOf nm) i) i j q == -2) <;> simp
                rcases e0 with e0 | e0
                · have R : Hid _ := arr_par1 (v := i) A HQ.out (by rw [if_pos (by simpa using e0)])
                  go_wp2_with fail
                  go_roundw
                  case rel => exact ⟨j + 1, by omega, by go_num, _, G.set1 q _, R.out⟩
                  case measure => simp [intOf]; omega
                · have R : Hid _ := arr_par1 (v := -3) A HQ.out (by rw [if_neg (by simpa using e0)])
                  go_wp2_with fail
                  go_roundw
                  case rel => exact ⟨j + 1, by omega, by go_num, _, G.set1 q _, R.out⟩
                  case measure => simp [intOf]; omega
              · have : j = (nm i).nk := by omega
                have A' : Arr c1 k (parN (ndOf nm) (i + 1)) := by have := A; rw [‹j = _›] at this; exact this
                clear A this
                go_wp2_with fail
                go_roundw
                case rel => exact ⟨i + 1, by omega, by go_num, _, G, A'⟩
                case measure => simp [intOf]; omega
          · have : i = k := by omega
            subst this
            have bx := G.box.cell
            have f1 := G.b1.free
            have g0 : wr.cell? ⟨g1, i - 1, none⟩ = some (.int .i64 (parN (ndOf nm) i (i - 1))) := by rw [G.b1.cell]; exact A.2 (i - 1) (by omega)
            have e0 : (parN (ndOf nm) i (i - 1) == -2) = true ∨ (parN (ndOf nm) i (i - 1) == -2) = false := by cases (parN (ndOf nm) i (i - 1) == -2) <;> simp
            have G0 : ∃ c1', (parN (ndOf nm) i (i - 1) == -2) = true ∧ GrowAt w (wr.setCell ⟨g1, i - 1, none⟩ (.int .i64 (-1))) i p g1 g2 c1' c2 ∧ Arr c1' i (parE (ndOf nm) i) ∨ (parN (ndOf nm) i (i - 1) == -2) = false ∧ GrowAt w wr i p g1 g2 c1' c2 ∧ Arr c1' i (parE (ndOf nm) i) := by
              rcases e0 with e0 | e0
              · exact ⟨_, .inl ⟨e0, G.set1 (i - 1) _, arr_parE A (by simpa using e0)⟩⟩
              · exact ⟨_, .inr ⟨e0, G, arr_parE' A (by simpa using e0)⟩⟩
            obtain ⟨i, rfl⟩ : ∃ j, i = j + 1 := ⟨i - 1, by omega⟩
            simp only [Nat.add_sub_cancel] at g0 e0 G0
            clear G A
            clear e0
            obtain ⟨c1', (⟨e0, G, A⟩ | ⟨e0, G, A⟩)⟩ := G0
            all_goals
              go_wp2_with fail
              clear bx f1 g0
              go_loopw [9] (fun i' wr => ∃ m : Nat, m ≤ i ∧ i' = .int .i64 ((i : Int) - 1 - m) ∧ ∃ c2', GrowAt w wr (i + 1) p g1 g2 c1' c2' ∧ Arr c2' (i + 1) (depN (parE (ndOf nm) (i + 1)) (i + 1) m)) (fun i' _ => (intOf i' + 1).toNat)
              case atStart => exact ⟨0, Nat.zero_le _, by go_num, c2, G, ⟨G.s2, HZ.out⟩⟩
              case round =>
                clear G
                obtain ⟨m, hm, rfl, c2', G, D⟩ := hrel
                by_cases hmt : m < i
                · obtain ⟨t, ht⟩ : ∃ t : Nat, t = i - 1 - m := ⟨_, rfl⟩
                  have ht' : (i : Int) - 1 - m = (t : Int) := by omega
                  rw [ht']
                  have ht2 : t < i := by omega
                  have HT : Hid _ := ht
                  have HT' : Hid _ := ht'
                  clear ht ht'
                  have bx := G.box.cell
                  have f2 := G.b2.free
                  have pl := parE_lt (ndOf nm) (i + 1) t
                  have g1t : wr.cell? ⟨g1, t, none⟩ = some (.int .i64 (parE (ndOf nm) (i + 1) t)) := by rw [G.b1.cell]; exact A.2 t (by omega)
                  obtain ⟨x0, g2t⟩ := G.b2.some (j := t) (by rw [G.s2]; omega)
                  by_cases hp : 0 ≤ parE (ndOf nm) (i + 1) t
                  · obtain ⟨q, hq⟩ := Int.eq_ofNat_of_zero_le hp
                    have hq2 : q < i + 1 := by omega
                    have g2q : wr.cell? ⟨g2, q, none⟩ = some (.int .i64 (depN (parE (ndOf nm) (i + 1)) (i + 1) m q)) := by rw [G.b2.cell]; exact D.2 q hq2
                    have dl := depN_le (parE (ndOf nm) (i + 1)) (i + 1) m q
                    have R : Hid _ := arr_depN (i := t) (v := depN (parE (ndOf nm) (i + 1)) (i + 1) m q + 1) D (by have := HT.out; omega) hp (by rw [hq]; rfl)
                    rw [hq] at g1t
                    clear hp pl hq
                    have q1 : (q : Int) < ((i + 1 : Nat) : Int) := by omega
                    have q2 : (t : Int) < ((i + 1 : Nat) : Int) := by omega
                    go_wp2_with fail
                    go_region
                    all_goals
                      go_wp2
                      go_roundw
                      case rel => exact ⟨m + 1, by omega, congrArg (Value.int .i64) (show (t : Int) - 1 = (i : Int) - 1 - ((m + 1 : Nat) : Int) by have := HT'.out; omega), _, (G.set2 t _).drew, R.out⟩
                      case measure => simp [intOf]
                  · have R : Hid _ := arr_depN' (i := t) D (by have := HT.out; omega) hp
                    go_wp2_with fail
                    go_roundw
                    case rel => exact ⟨m + 1, by omega, congrArg (Value.int .i64) (show (t : Int) - 1 = (i : Int) - 1 - ((m + 1 : Nat) : Int) by have := HT'.out; omega), _, G, R.out⟩
                    case measure => simp [intOf]
                · have : m = i := by omega
                  subst this
                  have bx := G.box.cell
                  have rx := G.res.cell
                  have fx := G.res.free
                  go_wp2_with fail
                  refine bodyPost_ret (v := .agg #[.slice (some ⟨g1, 0, none⟩) (m + 1) (m + 1), .slice (some ⟨g2, 0, none⟩) (m + 1) (m + 1)]) (by simp [results, Tryz.results33, go_sem, rx]) rfl ⟨_, _, rfl, ?_, ?_, ?_, (fun x hx => by cases hx; have := G.d1; simp only; omega), (fun x hx => by cases hx; have := G.d1; simp only; omega)⟩
                  · exact below_set (below_set G.onw (Nat.le_refl _) _) (Nat.le_refl _) _
                  · intro _
                    refine ⟨g1, 0, rfl, fun k hk => ?_⟩
                    have K := (kept_setCell wr w.heap.size 0 (.slice (some ⟨g1, 0, none⟩) (m + 1) (m + 1))).trans (kept_setCell _ w.heap.size 1 (.slice (some ⟨g2, 0, none⟩) (m + 1) (m + 1)))
                    refine (K.cell (b := g1) (by have := G.d1; omega)).trans ?_
                    rw [G.b1.cell, Nat.zero_add]; exact A.2 k hk
                  · intro _
                    refine ⟨g2, 0, rfl, fun k hk => ?_⟩
                    have K := (kept_setCell wr w.heap.size 0 (.slice (some ⟨g1, 0, none⟩) (m + 1) (m + 1))).trans (kept_setCell _ w.heap.size 1 (.slice (some ⟨g2, 0, none⟩) (m + 1) (m + 1)))
                    refine (K.cell (b := g2) (by have := G.d1; omega)).trans ?_
                    rw [G.b2.cell, Nat.zero_add]; exact D.2 k hk
end Go.Proofs.YtnokgdgikdgaeaaGreat
