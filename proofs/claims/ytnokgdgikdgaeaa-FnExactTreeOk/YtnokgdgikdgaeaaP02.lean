import Derived.Test.YtnokgdgikdgaeaaP01
namespace Go.Proofs.Ytnokgdgikdgaeaa
open Go.RowKit
attribute [local go_sem] run_store_float

set_option maxRecDepth 100000 in
set_option maxHeartbeats 4000000 in
theorem statementPiece_any (m : PM) (p : Int) (kk : Option Addr) (kn kc : Nat) (w : World) (hs : m.kind < 20) :
    Calls Try.prog 42 #[.agg #[.int .i64 p, .int .i64 m.kind, .int .i64 m.frm, .int .i64 m.tto, .int .i64 m.line, .int .i64 m.op, .int .i64 m.num, .float .f64 m.flt, .string m.text, .slice m.na m.nn m.nc, .slice m.ka m.nk m.kc, .slice kk kn kc]] w fun e w' => e = .returned (.iface (partT m.kind) (.agg #[.int .i64 p, .int .i64 m.kind, .int .i64 m.frm, .int .i64 m.tto, .int .i64 m.line, .int .i64 m.op, .int .i64 m.num, .float .f64 m.flt, .string m.text, .slice m.na m.nn m.nc, .slice m.ka m.nk m.kc, .slice kk kn kc])) ∧ Onw w w' := by
  have cs : m.kind = 1 ∨ m.kind = 2 ∨ m.kind = 3 ∨ m.kind = 4 ∨ m.kind = 5 ∨ m.kind = 6 ∨ m.kind = 16 ∨ m.kind = 7 ∨ m.kind = 8 ∨ m.kind = 9 ∨ m.kind = 10 ∨ m.kind = 11 ∨ m.kind = 12 ∨ m.kind = 13 ∨ m.kind = 14 ∨ m.kind = 15 ∨ (m.kind ≠ 1 ∧ m.kind ≠ 2 ∧ m.kind ≠ 3 ∧ m.kind ≠ 4 ∧ m.kind ≠ 5 ∧ m.kind ≠ 6 ∧ m.kind ≠ 16 ∧ m.kind ≠ 7 ∧ m.kind ≠ 8 ∧ m.kind ≠ 9 ∧ m.kind ≠ 10 ∧ m.kind ≠ 11 ∧ m.kind ≠ 12 ∧ m.kind ≠ 13 ∧ m.kind ≠ 14 ∧ m.kind ≠ 15) := by omega
  rcases cs with hk | hk | hk | hk | hk | hk | hk | hk | hk | hk | hk | hk | hk | hk | hk | hk | hk
  · have T : Hid (partT m.kind = 81) := by show _ = _; rw [hk]; rfl
    have e1 : (m.kind == 1) = true := by rw [hk]; rfl
    clear hk hs
    go_enter Try.func42, Try.ntmps42
    go_wp2_with fail
    go_ret
    exact ⟨by rw [T.out]; rfl, Onw.alloc _ _⟩
  · have T : Hid (partT m.kind = 84) := by show _ = _; rw [hk]; rfl
    have e1 : (m.kind == 1) = false := by rw [hk]; rfl
    have e2 : (m.kind == 2) = true := by rw [hk]; rfl
    clear hk hs
    go_enter Try.func42, Try.ntmps42
    go_wp2_with fail
    go_ret
    exact ⟨by rw [T.out]; rfl, Onw.alloc _ _⟩
  · have T : Hid (partT m.kind = 85) := by show _ = _; rw [hk]; rfl
    have e1 : (m.kind == 1) = false := by rw [hk]; rfl
    have e2 : (m.kind == 2) = false := by rw [hk]; rfl
    have e3 : (m.kind == 3) = true := by rw [hk]; rfl
    clear hk hs
    go_enter Try.func42, Try.ntmps42
    go_wp2_with fail
    go_ret
    exact ⟨by rw [T.out]; rfl, Onw.alloc _ _⟩
  · have T : Hid (partT m.kind = 87) := by show _ = _; rw [hk]; rfl
    have e1 : (m.kind == 1) = false := by rw [hk]; rfl
    have e2 : (m.kind == 2) = false := by rw [hk]; rfl
    have e3 : (m.kind == 3) = false := by rw [hk]; rfl
    have e4 : (m.kind == 4) = true := by rw [hk]; rfl
    clear hk hs
    go_enter Try.func42, Try.ntmps42
    go_wp2_with fail
    go_ret
    exact ⟨by rw [T.out]; rfl, Onw.alloc _ _⟩
  · have T : Hid (partT m.kind = 88) := by show _ = _; rw [hk]; rfl
    have e1 : (m.kind == 1) = false := by rw [hk]; rfl
    have e2 : (m.kind == 2) = false := by rw [hk]; rfl
    have e3 : (m.kind == 3) = false := by rw [hk]; rfl
    have e4 : (m.kind == 4) = false := by rw [hk]; rfl
    have e5 : (m.kind == 5) = true := by rw [hk]; rfl
    clear hk hs
    go_enter Try.func42, Try.ntmps42
    go_wp2_with fail
    go_ret
    exact ⟨by rw [T.out]; rfl, Onw.alloc _ _⟩
  · have T : Hid (partT m.kind = 90) := by show _ = _; rw [hk]; rfl
    have e1 : (m.kind == 1) = false := by rw [hk]; rfl
    have e2 : (m.kind == 2) = false := by rw [hk]; rfl
    have e3 : (m.kind == 3) = false := by rw [hk]; rfl
    have e4 : (m.kind == 4) = false := by rw [hk]; rfl
    have e5 : (m.kind == 5) = false := by rw [hk]; rfl
    have e6 : (m.kind == 6) = true := by rw [hk]; rfl
    clear hk hs
    go_enter Try.func42, Try.ntmps42
    go_wp2_with fail
    go_ret
    exact ⟨by rw [T.out]; rfl, Onw.alloc _ _⟩
  · have T : Hid (partT m.kind = 90) := by show _ = _; rw [hk]; rfl
    have e1 : (m.kind == 1) = false := by rw [hk]; rfl
    have e2 : (m.kind == 2) = false := by rw [hk]; rfl
    have e3 : (m.kind == 3) = false := by rw [hk]; rfl
    have e4 : (m.kind == 4) = false := by rw [hk]; rfl
    have e5 : (m.kind == 5) = false := by rw [hk]; rfl
    have e6 : (m.kind == 6) = false := by rw [hk]; rfl
    have e16 : (m.kind == 16) = true := by rw [hk]; rfl
    clear hk hs
    go_enter Try.func42, Try.ntmps42
    go_wp2_with fail
    go_ret
    exact ⟨by rw [T.out]; rfl, Onw.alloc _ _⟩
  · have T : Hid (partT m.kind = 91) := by show _ = _; rw [hk]; rfl
    have e1 : (m.kind == 1) = false := by rw [hk]; rfl
    have e2 : (m.kind == 2) = false := by rw [hk]; rfl
    have e3 : (m.kind == 3) = false := by rw [hk]; rfl
    have e4 : (m.kind == 4) = false := by rw [hk]; rfl
    have e5 : (m.kind == 5) = false := by rw [hk]; rfl
    have e6 : (m.kind == 6) = false := by rw [hk]; rfl
    have e16 : (m.kind == 16) = false := by rw [hk]; rfl
    have e7 : (m.kind == 7) = true := by rw [hk]; rfl
    clear hk hs
    go_enter Try.func42, Try.ntmps42
    go_wp2_with fail
    go_ret
    exact ⟨by rw [T.out]; rfl, Onw.alloc _ _⟩
  · have T : Hid (partT m.kind = 92) := by show _ = _; rw [hk]; rfl
    have e1 : (m.kind == 1) = false := by rw [hk]; rfl
    have e2 : (m.kind == 2) = false := by rw [hk]; rfl
    have e3 : (m.kind == 3) = false := by rw [hk]; rfl
    have e4 : (m.kind == 4) = false := by rw [hk]; rfl
    have e5 : (m.kind == 5) = false := by rw [hk]; rfl
    have e6 : (m.kind == 6) = false := by rw [hk]; rfl
    have e16 : (m.kind == 16) = false := by rw [hk]; rfl
    have e7 : (m.kind == 7) = false := by rw [hk]; rfl
    have e8 : (m.kind == 8) = true := by rw [hk]; rfl
    clear hk hs
    go_enter Try.func42, Try.ntmps42
    go_wp2_with fail
    go_ret
    exact ⟨by rw [T.out]; rfl, Onw.alloc _ _⟩
  · have T : Hid (partT m.kind = 93) := by show _ = _; rw [hk]; rfl
    have e1 : (m.kind == 1) = false := by rw [hk]; rfl
    have e2 : (m.kind == 2) = false := by rw [hk]; rfl
    have e3 : (m.kind == 3) = false := by rw [hk]; rfl
    have e4 : (m.kind == 4) = false := by rw [hk]; rfl
    have e5 : (m.kind == 5) = false := by rw [hk]; rfl
    have e6 : (m.kind == 6) = false := by rw [hk]; rfl
    have e16 : (m.kind == 16) = false := by rw [hk]; rfl
    have e7 : (m.kind == 7) = false := by rw [hk]; rfl
    have e8 : (m.kind == 8) = false := by rw [hk]; rfl
    have e9 : (m.kind == 9) = true := by rw [hk]; rfl
    clear hk hs
    go_enter Try.func42, Try.ntmps42
    go_wp2_with fail
    go_ret
    exact ⟨by rw [T.out]; rfl, Onw.alloc _ _⟩
  · have T : Hid (partT m.kind = 94) := by show _ = _; rw [hk]; rfl
    have e1 : (m.kind == 1) = false := by rw [hk]; rfl
    have e2 : (m.kind == 2) = false := by rw [hk]; rfl
    have e3 : (m.kind == 3) = false := by rw [hk]; rfl
    have e4 : (m.kind == 4) = false := by rw [hk]; rfl
    have e5 : (m.kind == 5) = false := by rw [hk]; rfl
    have e6 : (m.kind == 6) = false := by rw [hk]; rfl
    have e16 : (m.kind == 16) = false := by rw [hk]; rfl
    have e7 : (m.kind == 7) = false := by rw [hk]; rfl
    have e8 : (m.kind == 8) = false := by rw [hk]; rfl
    have e9 : (m.kind == 9) = false := by rw [hk]; rfl
    have e10 : (m.kind == 10) = true := by rw [hk]; rfl
    clear hk hs
    go_enter Try.func42, Try.ntmps42
    go_wp2_with fail
    go_ret
    exact ⟨by rw [T.out]; rfl, Onw.alloc _ _⟩
  · have T : Hid (partT m.kind = 95) := by show _ = _; rw [hk]; rfl
    have e1 : (m.kind == 1) = false := by rw [hk]; rfl
    have e2 : (m.kind == 2) = false := by rw [hk]; rfl
    have e3 : (m.kind == 3) = false := by rw [hk]; rfl
    have e4 : (m.kind == 4) = false := by rw [hk]; rfl
    have e5 : (m.kind == 5) = false := by rw [hk]; rfl
    have e6 : (m.kind == 6) = false := by rw [hk]; rfl
    have e16 : (m.kind == 16) = false := by rw [hk]; rfl
    have e7 : (m.kind == 7) = false := by rw [hk]; rfl
    have e8 : (m.kind == 8) = false := by rw [hk]; rfl
    have e9 : (m.kind == 9) = false := by rw [hk]; rfl
    have e10 : (m.kind == 10) = false := by rw [hk]; rfl
    have e11 : (m.kind == 11) = true := by rw [hk]; rfl
    clear hk hs
    go_enter Try.func42, Try.ntmps42
    go_wp2_with fail
    go_ret
    exact ⟨by rw [T.out]; rfl, Onw.alloc _ _⟩
  · have T : Hid (partT m.kind = 95) := by show _ = _; rw [hk]; rfl
    have e1 : (m.kind == 1) = false := by rw [hk]; rfl
    have e2 : (m.kind == 2) = false := by rw [hk]; rfl
    have e3 : (m.kind == 3) = false := by rw [hk]; rfl
    have e4 : (m.kind == 4) = false := by rw [hk]; rfl
    have e5 : (m.kind == 5) = false := by rw [hk]; rfl
    have e6 : (m.kind == 6) = false := by rw [hk]; rfl
    have e16 : (m.kind == 16) = false := by rw [hk]; rfl
    have e7 : (m.kind == 7) = false := by rw [hk]; rfl
    have e8 : (m.kind == 8) = false := by rw [hk]; rfl
    have e9 : (m.kind == 9) = false := by rw [hk]; rfl
    have e10 : (m.kind == 10) = false := by rw [hk]; rfl
    have e11 : (m.kind == 11) = false := by rw [hk]; rfl
    have e12 : (m.kind == 12) = true := by rw [hk]; rfl
    clear hk hs
    go_enter Try.func42, Try.ntmps42
    go_wp2_with fail
    go_ret
    exact ⟨by rw [T.out]; rfl, Onw.alloc _ _⟩
  · have T : Hid (partT m.kind = 96) := by show _ = _; rw [hk]; rfl
    have e1 : (m.kind == 1) = false := by rw [hk]; rfl
    have e2 : (m.kind == 2) = false := by rw [hk]; rfl
    have e3 : (m.kind == 3) = false := by rw [hk]; rfl
    have e4 : (m.kind == 4) = false := by rw [hk]; rfl
    have e5 : (m.kind == 5) = false := by rw [hk]; rfl
    have e6 : (m.kind == 6) = false := by rw [hk]; rfl
    have e16 : (m.kind == 16) = false := by rw [hk]; rfl
    have e7 : (m.kind == 7) = false := by rw [hk]; rfl
    have e8 : (m.kind == 8) = false := by rw [hk]; rfl
    have e9 : (m.kind == 9) = false := by rw [hk]; rfl
    have e10 : (m.kind == 10) = false := by rw [hk]; rfl
    have e11 : (m.kind == 11) = false := by rw [hk]; rfl
    have e12 : (m.kind == 12) = false := by rw [hk]; rfl
    have e13 : (m.kind == 13) = true := by rw [hk]; rfl
    clear hk hs
    go_enter Try.func42, Try.ntmps42
    go_wp2_with fail
    go_ret
    exact ⟨by rw [T.out]; rfl, Onw.alloc _ _⟩
  · have T : Hid (partT m.kind = 97) := by show _ = _; rw [hk]; rfl
    have e1 : (m.kind == 1) = false := by rw [hk]; rfl
    have e2 : (m.kind == 2) = false := by rw [hk]; rfl
    have e3 : (m.kind == 3) = false := by rw [hk]; rfl
    have e4 : (m.kind == 4) = false := by rw [hk]; rfl
    have e5 : (m.kind == 5) = false := by rw [hk]; rfl
    have e6 : (m.kind == 6) = false := by rw [hk]; rfl
    have e16 : (m.kind == 16) = false := by rw [hk]; rfl
    have e7 : (m.kind == 7) = false := by rw [hk]; rfl
    have e8 : (m.kind == 8) = false := by rw [hk]; rfl
    have e9 : (m.kind == 9) = false := by rw [hk]; rfl
    have e10 : (m.kind == 10) = false := by rw [hk]; rfl
    have e11 : (m.kind == 11) = false := by rw [hk]; rfl
    have e12 : (m.kind == 12) = false := by rw [hk]; rfl
    have e13 : (m.kind == 13) = false := by rw [hk]; rfl
    have e14 : (m.kind == 14) = true := by rw [hk]; rfl
    clear hk hs
    go_enter Try.func42, Try.ntmps42
    go_wp2_with fail
    go_ret
    exact ⟨by rw [T.out]; rfl, Onw.alloc _ _⟩
  · have T : Hid (partT m.kind = 98) := by show _ = _; rw [hk]; rfl
    have e1 : (m.kind == 1) = false := by rw [hk]; rfl
    have e2 : (m.kind == 2) = false := by rw [hk]; rfl
    have e3 : (m.kind == 3) = false := by rw [hk]; rfl
    have e4 : (m.kind == 4) = false := by rw [hk]; rfl
    have e5 : (m.kind == 5) = false := by rw [hk]; rfl
    have e6 : (m.kind == 6) = false := by rw [hk]; rfl
    have e16 : (m.kind == 16) = false := by rw [hk]; rfl
    have e7 : (m.kind == 7) = false := by rw [hk]; rfl
    have e8 : (m.kind == 8) = false := by rw [hk]; rfl
    have e9 : (m.kind == 9) = false := by rw [hk]; rfl
    have e10 : (m.kind == 10) = false := by rw [hk]; rfl
    have e11 : (m.kind == 11) = false := by rw [hk]; rfl
    have e12 : (m.kind == 12) = false := by rw [hk]; rfl
    have e13 : (m.kind == 13) = false := by rw [hk]; rfl
    have e14 : (m.kind == 14) = false := by rw [hk]; rfl
    have e15 : (m.kind == 15) = true := by rw [hk]; rfl
    clear hk hs
    go_enter Try.func42, Try.ntmps42
    go_wp2_with fail
    go_ret
    exact ⟨by rw [T.out]; rfl, Onw.alloc _ _⟩
  · have T : Hid (partT m.kind = 73) := by
      show _ = _
      unfold partT
      repeat (rw [if_neg (by omega)])
    have e1 : (m.kind == 1) = false := by simp; omega
    have e2 : (m.kind == 2) = false := by simp; omega
    have e3 : (m.kind == 3) = false := by simp; omega
    have e4 : (m.kind == 4) = false := by simp; omega
    have e5 : (m.kind == 5) = false := by simp; omega
    have e6 : (m.kind == 6) = false := by simp; omega
    have e16 : (m.kind == 16) = false := by simp; omega
    have e7 : (m.kind == 7) = false := by simp; omega
    have e8 : (m.kind == 8) = false := by simp; omega
    have e9 : (m.kind == 9) = false := by simp; omega
    have e10 : (m.kind == 10) = false := by simp; omega
    have e11 : (m.kind == 11) = false := by simp; omega
    have e12 : (m.kind == 12) = false := by simp; omega
    have e13 : (m.kind == 13) = false := by simp; omega
    have e14 : (m.kind == 14) = false := by simp; omega
    have e15 : (m.kind == 15) = false := by simp; omega
    clear hk hs
    go_enter Try.func42, Try.ntmps42
    go_wp2_with fail
    go_ret
    exact ⟨by rw [T.out]; rfl, Onw.alloc _ _⟩

set_option maxRecDepth 100000 in
set_option maxHeartbeats 4000000 in
theorem entryPiece_any (m : PM) (p : Int) (kk : Option Addr) (kn kc : Nat) (w : World) (hs : 38 ≤ m.kind) :
    Calls Try.prog 57 #[.agg #[.int .i64 p, .int .i64 m.kind, .int .i64 m.frm, .int .i64 m.tto, .int .i64 m.line, .int .i64 m.op, .int .i64 m.num, .float .f64 m.flt, .string m.text, .slice m.na m.nn m.nc, .slice m.ka m.nk m.kc, .slice kk kn kc]] w fun e w' => e = .returned (.iface (partT m.kind) (.agg #[.int .i64 p, .int .i64 m.kind, .int .i64 m.frm, .int .i64 m.tto, .int .i64 m.line, .int .i64 m.op, .int .i64 m.num, .float .f64 m.flt, .string m.text, .slice m.na m.nn m.nc, .slice m.ka m.nk m.kc, .slice kk kn kc])) ∧ Onw w w' := by
  have cs : m.kind = 40 ∨ m.kind = 41 ∨ m.kind = 42 ∨ (m.kind ≠ 40 ∧ m.kind ≠ 41 ∧ m.kind ≠ 42) := by omega
  rcases cs with hk | hk | hk | hk
  · have T : Hid (partT m.kind = 119) := by show _ = _; rw [hk]; rfl
    have e40 : (m.kind == 40) = true := by rw [hk]; rfl
    clear hk hs
    go_enter Try.func57, Try.ntmps57
    go_wp2_with fail
    go_ret
    exact ⟨by rw [T.out]; rfl, Onw.alloc _ _⟩
  · have T : Hid (partT m.kind = 120) := by show _ = _; rw [hk]; rfl
    have e40 : (m.kind == 40) = false := by rw [hk]; rfl
    have e41 : (m.kind == 41) = true := by rw [hk]; rfl
    clear hk hs
    go_enter Try.func57, Try.ntmps57
    go_wp2_with fail
    go_ret
    exact ⟨by rw [T.out]; rfl, Onw.alloc _ _⟩
  · have T : Hid (partT m.kind = 121) := by show _ = _; rw [hk]; rfl
    have e40 : (m.kind == 40) = false := by rw [hk]; rfl
    have e41 : (m.kind == 41) = false := by rw [hk]; rfl
    have e42 : (m.kind == 42) = true := by rw [hk]; rfl
    clear hk hs
    go_enter Try.func57, Try.ntmps57
    go_wp2_with fail
    go_ret
    exact ⟨by rw [T.out]; rfl, Onw.alloc _ _⟩
  · have T : Hid (partT m.kind = 73) := by
      show _ = _
      unfold partT
      repeat (rw [if_neg (by omega)])
    have e40 : (m.kind == 40) = false := by simp; omega
    have e41 : (m.kind == 41) = false := by simp; omega
    have e42 : (m.kind == 42) = false := by simp; omega
    clear hk hs
    go_enter Try.func57, Try.ntmps57
    go_wp2_with fail
    go_ret
    exact ⟨by rw [T.out]; rfl, Onw.alloc _ _⟩

set_option maxRecDepth 100000 in
set_option maxHeartbeats 4000000 in
theorem expressionPiece_any (m : PM) (p : Int) (kk : Option Addr) (kn kc : Nat) (w : World) (hs : 20 ≤ m.kind) :
    Calls Try.prog 43 #[.agg #[.int .i64 p, .int .i64 m.kind, .int .i64 m.frm, .int .i64 m.tto, .int .i64 m.line, .int .i64 m.op, .int .i64 m.num, .float .f64 m.flt, .string m.text, .slice m.na m.nn m.nc, .slice m.ka m.nk m.kc, .slice kk kn kc]] w fun e w' => e = .returned (.iface (partT m.kind) (.agg #[.int .i64 p, .int .i64 m.kind, .int .i64 m.frm, .int .i64 m.tto, .int .i64 m.line, .int .i64 m.op, .int .i64 m.num, .float .f64 m.flt, .string m.text, .slice m.na m.nn m.nc, .slice m.ka m.nk m.kc, .slice kk kn kc])) ∧ Onw w w' := by
  have cs : m.kind = 20 ∨ m.kind = 21 ∨ m.kind = 22 ∨ m.kind = 23 ∨ m.kind = 24 ∨ m.kind = 25 ∨ m.kind = 26 ∨ m.kind = 27 ∨ m.kind = 28 ∨ m.kind = 29 ∨ m.kind = 30 ∨ m.kind = 31 ∨ m.kind = 32 ∨ m.kind = 33 ∨ m.kind = 34 ∨ m.kind = 35 ∨ m.kind = 36 ∨ m.kind = 37 ∨ (m.kind ≠ 20 ∧ m.kind ≠ 21 ∧ m.kind ≠ 22 ∧ m.kind ≠ 23 ∧ m.kind ≠ 24 ∧ m.kind ≠ 25 ∧ m.kind ≠ 26 ∧ m.kind ≠ 27 ∧ m.kind ≠ 28 ∧ m.kind ≠ 29 ∧ m.kind ≠ 30 ∧ m.kind ≠ 31 ∧ m.kind ≠ 32 ∧ m.kind ≠ 33 ∧ m.kind ≠ 34 ∧ m.kind ≠ 35 ∧ m.kind ≠ 36 ∧ m.kind ≠ 37) := by omega
  rcases cs with hk | hk | hk | hk | hk | hk | hk | hk | hk | hk | hk | hk | hk | hk | hk | hk | hk | hk | hk
  · have T : Hid (partT m.kind = 100) := by show _ = _; rw [hk]; rfl
    have e20 : (m.kind == 20) = true := by rw [hk]; rfl
    clear hk hs
    go_enter Try.func43, Try.ntmps43
    go_wp2_with fail
    go_ret
    exact ⟨by rw [T.out]; rfl, Onw.alloc _ _⟩
  · have T : Hid (partT m.kind = 100) := by show _ = _; rw [hk]; rfl
    have e20 : (m.kind == 20) = false := by rw [hk]; rfl
    have e21 : (m.kind == 21) = true := by rw [hk]; rfl
    clear hk hs
    go_enter Try.func43, Try.ntmps43
    go_wp2_with fail
    go_ret
    exact ⟨by rw [T.out]; rfl, Onw.alloc _ _⟩
  · have T : Hid (partT m.kind = 100) := by show _ = _; rw [hk]; rfl
    have e20 : (m.kind == 20) = false := by rw [hk]; rfl
    have e21 : (m.kind == 21) = false := by rw [hk]; rfl
    have e22 : (m.kind == 22) = true := by rw [hk]; rfl
    clear hk hs
    go_enter Try.func43, Try.ntmps43
    go_wp2_with fail
    go_ret
    exact ⟨by rw [T.out]; rfl, Onw.alloc _ _⟩
  · have T : Hid (partT m.kind = 102) := by show _ = _; rw [hk]; rfl
    have e20 : (m.kind == 20) = false := by rw [hk]; rfl
    have e21 : (m.kind == 21) = false := by rw [hk]; rfl
    have e22 : (m.kind == 22) = false := by rw [hk]; rfl
    have e23 : (m.kind == 23) = true := by rw [hk]; rfl
    clear hk hs
    go_enter Try.func43, Try.ntmps43
    go_wp2_with fail
    go_ret
    exact ⟨by rw [T.out]; rfl, Onw.alloc _ _⟩
  · have T : Hid (partT m.kind = 103) := by show _ = _; rw [hk]; rfl
    have e20 : (m.kind == 20) = false := by rw [hk]; rfl
    have e21 : (m.kind == 21) = false := by rw [hk]; rfl
    have e22 : (m.kind == 22) = false := by rw [hk]; rfl
    have e23 : (m.kind == 23) = false := by rw [hk]; rfl
    have e24 : (m.kind == 24) = true := by rw [hk]; rfl
    clear hk hs
    go_enter Try.func43, Try.ntmps43
    go_wp2_with fail
    go_ret
    exact ⟨by rw [T.out]; rfl, Onw.alloc _ _⟩
  · have T : Hid (partT m.kind = 105) := by show _ = _; rw [hk]; rfl
    have e20 : (m.kind == 20) = false := by rw [hk]; rfl
    have e21 : (m.kind == 21) = false := by rw [hk]; rfl
    have e22 : (m.kind == 22) = false := by rw [hk]; rfl
    have e23 : (m.kind == 23) = false := by rw [hk]; rfl
    have e24 : (m.kind == 24) = false := by rw [hk]; rfl
    have e25 : (m.kind == 25) = true := by rw [hk]; rfl
    clear hk hs
    go_enter Try.func43, Try.ntmps43
    go_wp2_with fail
    go_ret
    exact ⟨by rw [T.out]; rfl, Onw.alloc _ _⟩
  · have T : Hid (partT m.kind = 106) := by show _ = _; rw [hk]; rfl
    have e20 : (m.kind == 20) = false := by rw [hk]; rfl
    have e21 : (m.kind == 21) = false := by rw [hk]; rfl
    have e22 : (m.kind == 22) = false := by rw [hk]; rfl
    have e23 : (m.kind == 23) = false := by rw [hk]; rfl
    have e24 : (m.kind == 24) = false := by rw [hk]; rfl
    have e25 : (m.kind == 25) = false := by rw [hk]; rfl
    have e26 : (m.kind == 26) = true := by rw [hk]; rfl
    clear hk hs
    go_enter Try.func43, Try.ntmps43
    go_wp2_with fail
    go_ret
    exact ⟨by rw [T.out]; rfl, Onw.alloc _ _⟩
  · have T : Hid (partT m.kind = 101) := by show _ = _; rw [hk]; rfl
    have e20 : (m.kind == 20) = false := by rw [hk]; rfl
    have e21 : (m.kind == 21) = false := by rw [hk]; rfl
    have e22 : (m.kind == 22) = false := by rw [hk]; rfl
    have e23 : (m.kind == 23) = false := by rw [hk]; rfl
    have e24 : (m.kind == 24) = false := by rw [hk]; rfl
    have e25 : (m.kind == 25) = false := by rw [hk]; rfl
    have e26 : (m.kind == 26) = false := by rw [hk]; rfl
    have e27 : (m.kind == 27) = true := by rw [hk]; rfl
    clear hk hs
    go_enter Try.func43, Try.ntmps43
    go_wp2_with fail
    go_ret
    exact ⟨by rw [T.out]; rfl, Onw.alloc _ _⟩
  · have T : Hid (partT m.kind = 107) := by show _ = _; rw [hk]; rfl
    have e20 : (m.kind == 20) = false := by rw [hk]; rfl
    have e21 : (m.kind == 21) = false := by rw [hk]; rfl
    have e22 : (m.kind == 22) = false := by rw [hk]; rfl
    have e23 : (m.kind == 23) = false := by rw [hk]; rfl
    have e24 : (m.kind == 24) = false := by rw [hk]; rfl
    have e25 : (m.kind == 25) = false := by rw [hk]; rfl
    have e26 : (m.kind == 26) = false := by rw [hk]; rfl
    have e27 : (m.kind == 27) = false := by rw [hk]; rfl
    have e28 : (m.kind == 28) = true := by rw [hk]; rfl
    clear hk hs
    go_enter Try.func43, Try.ntmps43
    go_wp2_with fail
    go_ret
    exact ⟨by rw [T.out]; rfl, Onw.alloc _ _⟩
  · have T : Hid (partT m.kind = 107) := by show _ = _; rw [hk]; rfl
    have e20 : (m.kind == 20) = false := by rw [hk]; rfl
    have e21 : (m.kind == 21) = false := by rw [hk]; rfl
    have e22 : (m.kind == 22) = false := by rw [hk]; rfl
    have e23 : (m.kind == 23) = false := by rw [hk]; rfl
    have e24 : (m.kind == 24) = false := by rw [hk]; rfl
    have e25 : (m.kind == 25) = false := by rw [hk]; rfl
    have e26 : (m.kind == 26) = false := by rw [hk]; rfl
    have e27 : (m.kind == 27) = false := by rw [hk]; rfl
    have e28 : (m.kind == 28) = false := by rw [hk]; rfl
    have e29 : (m.kind == 29) = true := by rw [hk]; rfl
    clear hk hs
    go_enter Try.func43, Try.ntmps43
    go_wp2_with fail
    go_ret
    exact ⟨by rw [T.out]; rfl, Onw.alloc _ _⟩
  · have T : Hid (partT m.kind = 108) := by show _ = _; rw [hk]; rfl
    have e20 : (m.kind == 20) = false := by rw [hk]; rfl
    have e21 : (m.kind == 21) = false := by rw [hk]; rfl
    have e22 : (m.kind == 22) = false := by rw [hk]; rfl
    have e23 : (m.kind == 23) = false := by rw [hk]; rfl
    have e24 : (m.kind == 24) = false := by rw [hk]; rfl
    have e25 : (m.kind == 25) = false := by rw [hk]; rfl
    have e26 : (m.kind == 26) = false := by rw [hk]; rfl
    have e27 : (m.kind == 27) = false := by rw [hk]; rfl
    have e28 : (m.kind == 28) = false := by rw [hk]; rfl
    have e29 : (m.kind == 29) = false := by rw [hk]; rfl
    have e30 : (m.kind == 30) = true := by rw [hk]; rfl
    clear hk hs
    go_enter Try.func43, Try.ntmps43
    go_wp2_with fail
    go_ret
    exact ⟨by rw [T.out]; rfl, Onw.alloc _ _⟩
  · have T : Hid (partT m.kind = 109) := by show _ = _; rw [hk]; rfl
    have e20 : (m.kind == 20) = false := by rw [hk]; rfl
    have e21 : (m.kind == 21) = false := by rw [hk]; rfl
    have e22 : (m.kind == 22) = false := by rw [hk]; rfl
    have e23 : (m.kind == 23) = false := by rw [hk]; rfl
    have e24 : (m.kind == 24) = false := by rw [hk]; rfl
    have e25 : (m.kind == 25) = false := by rw [hk]; rfl
    have e26 : (m.kind == 26) = false := by rw [hk]; rfl
    have e27 : (m.kind == 27) = false := by rw [hk]; rfl
    have e28 : (m.kind == 28) = false := by rw [hk]; rfl
    have e29 : (m.kind == 29) = false := by rw [hk]; rfl
    have e30 : (m.kind == 30) = false := by rw [hk]; rfl
    have e31 : (m.kind == 31) = true := by rw [hk]; rfl
    clear hk hs
    go_enter Try.func43, Try.ntmps43
    go_wp2_with fail
    go_ret
    exact ⟨by rw [T.out]; rfl, Onw.alloc _ _⟩
  · have T : Hid (partT m.kind = 110) := by show _ = _; rw [hk]; rfl
    have e20 : (m.kind == 20) = false := by rw [hk]; rfl
    have e21 : (m.kind == 21) = false := by rw [hk]; rfl
    have e22 : (m.kind == 22) = false := by rw [hk]; rfl
    have e23 : (m.kind == 23) = false := by rw [hk]; rfl
    have e24 : (m.kind == 24) = false := by rw [hk]; rfl
    have e25 : (m.kind == 25) = false := by rw [hk]; rfl
    have e26 : (m.kind == 26) = false := by rw [hk]; rfl
    have e27 : (m.kind == 27) = false := by rw [hk]; rfl
    have e28 : (m.kind == 28) = false := by rw [hk]; rfl
    have e29 : (m.kind == 29) = false := by rw [hk]; rfl
    have e30 : (m.kind == 30) = false := by rw [hk]; rfl
    have e31 : (m.kind == 31) = false := by rw [hk]; rfl
    have e32 : (m.kind == 32) = true := by rw [hk]; rfl
    clear hk hs
    go_enter Try.func43, Try.ntmps43
    go_wp2_with fail
    go_ret
    exact ⟨by rw [T.out]; rfl, Onw.alloc _ _⟩
  · have T : Hid (partT m.kind = 111) := by show _ = _; rw [hk]; rfl
    have e20 : (m.kind == 20) = false := by rw [hk]; rfl
    have e21 : (m.kind == 21) = false := by rw [hk]; rfl
    have e22 : (m.kind == 22) = false := by rw [hk]; rfl
    have e23 : (m.kind == 23) = false := by rw [hk]; rfl
    have e24 : (m.kind == 24) = false := by rw [hk]; rfl
    have e25 : (m.kind == 25) = false := by rw [hk]; rfl
    have e26 : (m.kind == 26) = false := by rw [hk]; rfl
    have e27 : (m.kind == 27) = false := by rw [hk]; rfl
    have e28 : (m.kind == 28) = false := by rw [hk]; rfl
    have e29 : (m.kind == 29) = false := by rw [hk]; rfl
    have e30 : (m.kind == 30) = false := by rw [hk]; rfl
    have e31 : (m.kind == 31) = false := by rw [hk]; rfl
    have e32 : (m.kind == 32) = false := by rw [hk]; rfl
    have e33 : (m.kind == 33) = true := by rw [hk]; rfl
    clear hk hs
    go_enter Try.func43, Try.ntmps43
    go_wp2_with fail
    go_ret
    exact ⟨by rw [T.out]; rfl, Onw.alloc _ _⟩
  · have T : Hid (partT m.kind = 112) := by show _ = _; rw [hk]; rfl
    have e20 : (m.kind == 20) = false := by rw [hk]; rfl
    have e21 : (m.kind == 21) = false := by rw [hk]; rfl
    have e22 : (m.kind == 22) = false := by rw [hk]; rfl
    have e23 : (m.kind == 23) = false := by rw [hk]; rfl
    have e24 : (m.kind == 24) = false := by rw [hk]; rfl
    have e25 : (m.kind == 25) = false := by rw [hk]; rfl
    have e26 : (m.kind == 26) = false := by rw [hk]; rfl
    have e27 : (m.kind == 27) = false := by rw [hk]; rfl
    have e28 : (m.kind == 28) = false := by rw [hk]; rfl
    have e29 : (m.kind == 29) = false := by rw [hk]; rfl
    have e30 : (m.kind == 30) = false := by rw [hk]; rfl
    have e31 : (m.kind == 31) = false := by rw [hk]; rfl
    have e32 : (m.kind == 32) = false := by rw [hk]; rfl
    have e33 : (m.kind == 33) = false := by rw [hk]; rfl
    have e34 : (m.kind == 34) = true := by rw [hk]; rfl
    clear hk hs
    go_enter Try.func43, Try.ntmps43
    go_wp2_with fail
    go_ret
    exact ⟨by rw [T.out]; rfl, Onw.alloc _ _⟩
  · have T : Hid (partT m.kind = 113) := by show _ = _; rw [hk]; rfl
    have e20 : (m.kind == 20) = false := by rw [hk]; rfl
    have e21 : (m.kind == 21) = false := by rw [hk]; rfl
    have e22 : (m.kind == 22) = false := by rw [hk]; rfl
    have e23 : (m.kind == 23) = false := by rw [hk]; rfl
    have e24 : (m.kind == 24) = false := by rw [hk]; rfl
    have e25 : (m.kind == 25) = false := by rw [hk]; rfl
    have e26 : (m.kind == 26) = false := by rw [hk]; rfl
    have e27 : (m.kind == 27) = false := by rw [hk]; rfl
    have e28 : (m.kind == 28) = false := by rw [hk]; rfl
    have e29 : (m.kind == 29) = false := by rw [hk]; rfl
    have e30 : (m.kind == 30) = false := by rw [hk]; rfl
    have e31 : (m.kind == 31) = false := by rw [hk]; rfl
    have e32 : (m.kind == 32) = false := by rw [hk]; rfl
    have e33 : (m.kind == 33) = false := by rw [hk]; rfl
    have e34 : (m.kind == 34) = false := by rw [hk]; rfl
    have e35 : (m.kind == 35) = true := by rw [hk]; rfl
    clear hk hs
    go_enter Try.func43, Try.ntmps43
    go_wp2_with fail
    go_ret
    exact ⟨by rw [T.out]; rfl, Onw.alloc _ _⟩
  · have T : Hid (partT m.kind = 114) := by show _ = _; rw [hk]; rfl
    have e20 : (m.kind == 20) = false := by rw [hk]; rfl
    have e21 : (m.kind == 21) = false := by rw [hk]; rfl
    have e22 : (m.kind == 22) = false := by rw [hk]; rfl
    have e23 : (m.kind == 23) = false := by rw [hk]; rfl
    have e24 : (m.kind == 24) = false := by rw [hk]; rfl
    have e25 : (m.kind == 25) = false := by rw [hk]; rfl
    have e26 : (m.kind == 26) = false := by rw [hk]; rfl
    have e27 : (m.kind == 27) = false := by rw [hk]; rfl
    have e28 : (m.kind == 28) = false := by rw [hk]; rfl
    have e29 : (m.kind == 29) = false := by rw [hk]; rfl
    have e30 : (m.kind == 30) = false := by rw [hk]; rfl
    have e31 : (m.kind == 31) = false := by rw [hk]; rfl
    have e32 : (m.kind == 32) = false := by rw [hk]; rfl
    have e33 : (m.kind == 33) = false := by rw [hk]; rfl
    have e34 : (m.kind == 34) = false := by rw [hk]; rfl
    have e35 : (m.kind == 35) = false := by rw [hk]; rfl
    have e36 : (m.kind == 36) = true := by rw [hk]; rfl
    clear hk hs
    go_enter Try.func43, Try.ntmps43
    go_wp2_with fail
    go_ret
    exact ⟨by rw [T.out]; rfl, Onw.alloc _ _⟩
  · have T : Hid (partT m.kind = 116) := by show _ = _; rw [hk]; rfl
    have e20 : (m.kind == 20) = false := by rw [hk]; rfl
    have e21 : (m.kind == 21) = false := by rw [hk]; rfl
    have e22 : (m.kind == 22) = false := by rw [hk]; rfl
    have e23 : (m.kind == 23) = false := by rw [hk]; rfl
    have e24 : (m.kind == 24) = false := by rw [hk]; rfl
    have e25 : (m.kind == 25) = false := by rw [hk]; rfl
    have e26 : (m.kind == 26) = false := by rw [hk]; rfl
    have e27 : (m.kind == 27) = false := by rw [hk]; rfl
    have e28 : (m.kind == 28) = false := by rw [hk]; rfl
    have e29 : (m.kind == 29) = false := by rw [hk]; rfl
    have e30 : (m.kind == 30) = false := by rw [hk]; rfl
    have e31 : (m.kind == 31) = false := by rw [hk]; rfl
    have e32 : (m.kind == 32) = false := by rw [hk]; rfl
    have e33 : (m.kind == 33) = false := by rw [hk]; rfl
    have e34 : (m.kind == 34) = false := by rw [hk]; rfl
    have e35 : (m.kind == 35) = false := by rw [hk]; rfl
    have e36 : (m.kind == 36) = false := by rw [hk]; rfl
    have e37 : (m.kind == 37) = true := by rw [hk]; rfl
    clear hk hs
    go_enter Try.func43, Try.ntmps43
    go_wp2_with fail
    go_ret
    exact ⟨by rw [T.out]; rfl, Onw.alloc _ _⟩
  · have hh : 38 ≤ m.kind := by omega
    have e20 : (m.kind == 20) = false := by simp; omega
    have e21 : (m.kind == 21) = false := by simp; omega
    have e22 : (m.kind == 22) = false := by simp; omega
    have e23 : (m.kind == 23) = false := by simp; omega
    have e24 : (m.kind == 24) = false := by simp; omega
    have e25 : (m.kind == 25) = false := by simp; omega
    have e26 : (m.kind == 26) = false := by simp; omega
    have e27 : (m.kind == 27) = false := by simp; omega
    have e28 : (m.kind == 28) = false := by simp; omega
    have e29 : (m.kind == 29) = false := by simp; omega
    have e30 : (m.kind == 30) = false := by simp; omega
    have e31 : (m.kind == 31) = false := by simp; omega
    have e32 : (m.kind == 32) = false := by simp; omega
    have e33 : (m.kind == 33) = false := by simp; omega
    have e34 : (m.kind == 34) = false := by simp; omega
    have e35 : (m.kind == 35) = false := by simp; omega
    have e36 : (m.kind == 36) = false := by simp; omega
    have e37 : (m.kind == 37) = false := by simp; omega
    clear hk hs
    go_enter Try.func43, Try.ntmps43
    go_wp2_with fail
    refine (entryPiece_any m p kk kn kc _ hh).mono ?_
    rintro e w1 ⟨rfl, hb1⟩
    go_wp2_with fail
    go_ret
    exact ⟨rfl, (Onw.alloc _ _).trans hb1⟩
end Go.Proofs.Ytnokgdgikdgaeaa
