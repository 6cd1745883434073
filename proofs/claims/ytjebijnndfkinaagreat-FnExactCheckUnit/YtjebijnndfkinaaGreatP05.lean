import Derived.Test.YtjebijnndfkinaaGreatP03
namespace Go.Proofs.YtjebijnndfkinaaGreat
open Go.RowKit
attribute [local go_sem] run_store_float

/-- The type that a node's row has. -/
def formT (kind : Int) : TypeId :=
  if kind = 1 then 125 else
  if kind = 2 then 97 else
  if kind = 3 then 144 else
  if kind = 4 then 145 else
  if kind = 14 then 145 else
  if kind = 5 then 146 else
  if kind = 6 then 127 else
  if kind = 7 then 98 else
  if kind = 8 then 99 else
  if kind = 9 then 106 else
  if kind = 10 then 106 else
  if kind = 11 then 147 else
  if kind = 12 then 100 else
  if kind = 13 then 148 else
  if kind = 20 then 149 else
  if kind = 21 then 149 else
  if kind = 22 then 149 else
  if kind = 23 then 150 else
  if kind = 24 then 151 else
  if kind = 25 then 152 else
  if kind = 26 then 102 else
  if kind = 27 then 105 else
  if kind = 28 then 153 else
  if kind = 29 then 154 else
  if kind = 30 then 154 else
  if kind = 33 then 154 else
  if kind = 31 then 155 else
  if kind = 32 then 156 else
  if kind = 34 then 157 else
  if kind = 35 then 158 else
  if kind = 36 then 92 else
  if kind = 37 then 108 else
  if kind = 38 then 159 else
  121

set_option maxRecDepth 100000 in
set_option maxHeartbeats 4000000 in
theorem statementForm_any (m : NM) (p : Int) (kk : Option Addr) (kn kc : Nat) (w : World) (hs : statB m.kind = true) :
    Calls Tryz.prog 59 #[.agg #[.int .i64 p, .int .i64 m.kind, .int .i64 m.line, .int .i64 m.op, .int .i64 m.num, .float .f64 m.flt, .string m.str, .slice m.ra m.nr m.rc, .slice m.ka m.nk m.kc, .slice kk kn kc]] w fun e w' => e = .returned (.iface (formT m.kind) (.agg #[.int .i64 p, .int .i64 m.kind, .int .i64 m.line, .int .i64 m.op, .int .i64 m.num, .float .f64 m.flt, .string m.str, .slice m.ra m.nr m.rc, .slice m.ka m.nk m.kc, .slice kk kn kc])) ∧ Onw w w' := by
  have hs' : 1 ≤ m.kind ∧ m.kind ≤ 14 := by simpa [statB] using hs
  clear hs
  have cs : m.kind = 1 ∨ m.kind = 2 ∨ m.kind = 3 ∨ m.kind = 4 ∨ m.kind = 14 ∨ m.kind = 5 ∨ m.kind = 6 ∨ m.kind = 7 ∨ m.kind = 8 ∨ m.kind = 9 ∨ m.kind = 10 ∨ m.kind = 11 ∨ m.kind = 12 ∨ m.kind = 13 := by omega
  clear hs'
  rcases cs with hk | hk | hk | hk | hk | hk | hk | hk | hk | hk | hk | hk | hk | hk
  · have T : Hid (formT m.kind = 125) := by show _ = _; rw [hk]; rfl
    have e1 : (m.kind == 1) = true := by rw [hk]; rfl
    clear hk
    go_enter Tryz.func59, Tryz.ntmps59
    go_wp2_with fail
    go_ret
    exact ⟨by rw [T.out]; rfl, Onw.alloc _ _⟩
  · have T : Hid (formT m.kind = 97) := by show _ = _; rw [hk]; rfl
    have e1 : (m.kind == 1) = false := by rw [hk]; rfl
    have e2 : (m.kind == 2) = true := by rw [hk]; rfl
    clear hk
    go_enter Tryz.func59, Tryz.ntmps59
    go_wp2_with fail
    go_ret
    exact ⟨by rw [T.out]; rfl, Onw.alloc _ _⟩
  · have T : Hid (formT m.kind = 144) := by show _ = _; rw [hk]; rfl
    have e1 : (m.kind == 1) = false := by rw [hk]; rfl
    have e2 : (m.kind == 2) = false := by rw [hk]; rfl
    have e3 : (m.kind == 3) = true := by rw [hk]; rfl
    clear hk
    go_enter Tryz.func59, Tryz.ntmps59
    go_wp2_with fail
    go_ret
    exact ⟨by rw [T.out]; rfl, Onw.alloc _ _⟩
  · have T : Hid (formT m.kind = 145) := by show _ = _; rw [hk]; rfl
    have e1 : (m.kind == 1) = false := by rw [hk]; rfl
    have e2 : (m.kind == 2) = false := by rw [hk]; rfl
    have e3 : (m.kind == 3) = false := by rw [hk]; rfl
    have e4 : (m.kind == 4) = true := by rw [hk]; rfl
    clear hk
    go_enter Tryz.func59, Tryz.ntmps59
    go_wp2_with fail
    go_ret
    exact ⟨by rw [T.out]; rfl, Onw.alloc _ _⟩
  · have T : Hid (formT m.kind = 145) := by show _ = _; rw [hk]; rfl
    have e1 : (m.kind == 1) = false := by rw [hk]; rfl
    have e2 : (m.kind == 2) = false := by rw [hk]; rfl
    have e3 : (m.kind == 3) = false := by rw [hk]; rfl
    have e4 : (m.kind == 4) = false := by rw [hk]; rfl
    have e14 : (m.kind == 14) = true := by rw [hk]; rfl
    clear hk
    go_enter Tryz.func59, Tryz.ntmps59
    go_wp2_with fail
    go_ret
    exact ⟨by rw [T.out]; rfl, Onw.alloc _ _⟩
  · have T : Hid (formT m.kind = 146) := by show _ = _; rw [hk]; rfl
    have e1 : (m.kind == 1) = false := by rw [hk]; rfl
    have e2 : (m.kind == 2) = false := by rw [hk]; rfl
    have e3 : (m.kind == 3) = false := by rw [hk]; rfl
    have e4 : (m.kind == 4) = false := by rw [hk]; rfl
    have e14 : (m.kind == 14) = false := by rw [hk]; rfl
    have e5 : (m.kind == 5) = true := by rw [hk]; rfl
    clear hk
    go_enter Tryz.func59, Tryz.ntmps59
    go_wp2_with fail
    go_ret
    exact ⟨by rw [T.out]; rfl, Onw.alloc _ _⟩
  · have T : Hid (formT m.kind = 127) := by show _ = _; rw [hk]; rfl
    have e1 : (m.kind == 1) = false := by rw [hk]; rfl
    have e2 : (m.kind == 2) = false := by rw [hk]; rfl
    have e3 : (m.kind == 3) = false := by rw [hk]; rfl
    have e4 : (m.kind == 4) = false := by rw [hk]; rfl
    have e14 : (m.kind == 14) = false := by rw [hk]; rfl
    have e5 : (m.kind == 5) = false := by rw [hk]; rfl
    have e6 : (m.kind == 6) = true := by rw [hk]; rfl
    clear hk
    go_enter Tryz.func59, Tryz.ntmps59
    go_wp2_with fail
    go_ret
    exact ⟨by rw [T.out]; rfl, Onw.alloc _ _⟩
  · have T : Hid (formT m.kind = 98) := by show _ = _; rw [hk]; rfl
    have e1 : (m.kind == 1) = false := by rw [hk]; rfl
    have e2 : (m.kind == 2) = false := by rw [hk]; rfl
    have e3 : (m.kind == 3) = false := by rw [hk]; rfl
    have e4 : (m.kind == 4) = false := by rw [hk]; rfl
    have e14 : (m.kind == 14) = false := by rw [hk]; rfl
    have e5 : (m.kind == 5) = false := by rw [hk]; rfl
    have e6 : (m.kind == 6) = false := by rw [hk]; rfl
    have e7 : (m.kind == 7) = true := by rw [hk]; rfl
    clear hk
    go_enter Tryz.func59, Tryz.ntmps59
    go_wp2_with fail
    go_ret
    exact ⟨by rw [T.out]; rfl, Onw.alloc _ _⟩
  · have T : Hid (formT m.kind = 99) := by show _ = _; rw [hk]; rfl
    have e1 : (m.kind == 1) = false := by rw [hk]; rfl
    have e2 : (m.kind == 2) = false := by rw [hk]; rfl
    have e3 : (m.kind == 3) = false := by rw [hk]; rfl
    have e4 : (m.kind == 4) = false := by rw [hk]; rfl
    have e14 : (m.kind == 14) = false := by rw [hk]; rfl
    have e5 : (m.kind == 5) = false := by rw [hk]; rfl
    have e6 : (m.kind == 6) = false := by rw [hk]; rfl
    have e7 : (m.kind == 7) = false := by rw [hk]; rfl
    have e8 : (m.kind == 8) = true := by rw [hk]; rfl
    clear hk
    go_enter Tryz.func59, Tryz.ntmps59
    go_wp2_with fail
    go_ret
    exact ⟨by rw [T.out]; rfl, Onw.alloc _ _⟩
  · have T : Hid (formT m.kind = 106) := by show _ = _; rw [hk]; rfl
    have e1 : (m.kind == 1) = false := by rw [hk]; rfl
    have e2 : (m.kind == 2) = false := by rw [hk]; rfl
    have e3 : (m.kind == 3) = false := by rw [hk]; rfl
    have e4 : (m.kind == 4) = false := by rw [hk]; rfl
    have e14 : (m.kind == 14) = false := by rw [hk]; rfl
    have e5 : (m.kind == 5) = false := by rw [hk]; rfl
    have e6 : (m.kind == 6) = false := by rw [hk]; rfl
    have e7 : (m.kind == 7) = false := by rw [hk]; rfl
    have e8 : (m.kind == 8) = false := by rw [hk]; rfl
    have e9 : (m.kind == 9) = true := by rw [hk]; rfl
    clear hk
    go_enter Tryz.func59, Tryz.ntmps59
    go_wp2_with fail
    go_ret
    exact ⟨by rw [T.out]; rfl, Onw.alloc _ _⟩
  · have T : Hid (formT m.kind = 106) := by show _ = _; rw [hk]; rfl
    have e1 : (m.kind == 1) = false := by rw [hk]; rfl
    have e2 : (m.kind == 2) = false := by rw [hk]; rfl
    have e3 : (m.kind == 3) = false := by rw [hk]; rfl
    have e4 : (m.kind == 4) = false := by rw [hk]; rfl
    have e14 : (m.kind == 14) = false := by rw [hk]; rfl
    have e5 : (m.kind == 5) = false := by rw [hk]; rfl
    have e6 : (m.kind == 6) = false := by rw [hk]; rfl
    have e7 : (m.kind == 7) = false := by rw [hk]; rfl
    have e8 : (m.kind == 8) = false := by rw [hk]; rfl
    have e9 : (m.kind == 9) = false := by rw [hk]; rfl
    have e10 : (m.kind == 10) = true := by rw [hk]; rfl
    clear hk
    go_enter Tryz.func59, Tryz.ntmps59
    go_wp2_with fail
    go_ret
    exact ⟨by rw [T.out]; rfl, Onw.alloc _ _⟩
  · have T : Hid (formT m.kind = 147) := by show _ = _; rw [hk]; rfl
    have e1 : (m.kind == 1) = false := by rw [hk]; rfl
    have e2 : (m.kind == 2) = false := by rw [hk]; rfl
    have e3 : (m.kind == 3) = false := by rw [hk]; rfl
    have e4 : (m.kind == 4) = false := by rw [hk]; rfl
    have e14 : (m.kind == 14) = false := by rw [hk]; rfl
    have e5 : (m.kind == 5) = false := by rw [hk]; rfl
    have e6 : (m.kind == 6) = false := by rw [hk]; rfl
    have e7 : (m.kind == 7) = false := by rw [hk]; rfl
    have e8 : (m.kind == 8) = false := by rw [hk]; rfl
    have e9 : (m.kind == 9) = false := by rw [hk]; rfl
    have e10 : (m.kind == 10) = false := by rw [hk]; rfl
    have e11 : (m.kind == 11) = true := by rw [hk]; rfl
    clear hk
    go_enter Tryz.func59, Tryz.ntmps59
    go_wp2_with fail
    go_ret
    exact ⟨by rw [T.out]; rfl, Onw.alloc _ _⟩
  · have T : Hid (formT m.kind = 100) := by show _ = _; rw [hk]; rfl
    have e1 : (m.kind == 1) = false := by rw [hk]; rfl
    have e2 : (m.kind == 2) = false := by rw [hk]; rfl
    have e3 : (m.kind == 3) = false := by rw [hk]; rfl
    have e4 : (m.kind == 4) = false := by rw [hk]; rfl
    have e14 : (m.kind == 14) = false := by rw [hk]; rfl
    have e5 : (m.kind == 5) = false := by rw [hk]; rfl
    have e6 : (m.kind == 6) = false := by rw [hk]; rfl
    have e7 : (m.kind == 7) = false := by rw [hk]; rfl
    have e8 : (m.kind == 8) = false := by rw [hk]; rfl
    have e9 : (m.kind == 9) = false := by rw [hk]; rfl
    have e10 : (m.kind == 10) = false := by rw [hk]; rfl
    have e11 : (m.kind == 11) = false := by rw [hk]; rfl
    have e12 : (m.kind == 12) = true := by rw [hk]; rfl
    clear hk
    go_enter Tryz.func59, Tryz.ntmps59
    go_wp2_with fail
    go_ret
    exact ⟨by rw [T.out]; rfl, Onw.alloc _ _⟩
  · have T : Hid (formT m.kind = 148) := by show _ = _; rw [hk]; rfl
    have e1 : (m.kind == 1) = false := by rw [hk]; rfl
    have e2 : (m.kind == 2) = false := by rw [hk]; rfl
    have e3 : (m.kind == 3) = false := by rw [hk]; rfl
    have e4 : (m.kind == 4) = false := by rw [hk]; rfl
    have e14 : (m.kind == 14) = false := by rw [hk]; rfl
    have e5 : (m.kind == 5) = false := by rw [hk]; rfl
    have e6 : (m.kind == 6) = false := by rw [hk]; rfl
    have e7 : (m.kind == 7) = false := by rw [hk]; rfl
    have e8 : (m.kind == 8) = false := by rw [hk]; rfl
    have e9 : (m.kind == 9) = false := by rw [hk]; rfl
    have e10 : (m.kind == 10) = false := by rw [hk]; rfl
    have e11 : (m.kind == 11) = false := by rw [hk]; rfl
    have e12 : (m.kind == 12) = false := by rw [hk]; rfl
    have e13 : (m.kind == 13) = true := by rw [hk]; rfl
    clear hk
    go_enter Tryz.func59, Tryz.ntmps59
    go_wp2_with fail
    go_ret
    exact ⟨by rw [T.out]; rfl, Onw.alloc _ _⟩

set_option maxRecDepth 100000 in
set_option maxHeartbeats 4000000 in
theorem expressionForm_any (m : NM) (p : Int) (kk : Option Addr) (kn kc : Nat) (w : World) (hs : statB m.kind = false) :
    Calls Tryz.prog 60 #[.agg #[.int .i64 p, .int .i64 m.kind, .int .i64 m.line, .int .i64 m.op, .int .i64 m.num, .float .f64 m.flt, .string m.str, .slice m.ra m.nr m.rc, .slice m.ka m.nk m.kc, .slice kk kn kc]] w fun e w' => e = .returned (.iface (formT m.kind) (.agg #[.int .i64 p, .int .i64 m.kind, .int .i64 m.line, .int .i64 m.op, .int .i64 m.num, .float .f64 m.flt, .string m.str, .slice m.ra m.nr m.rc, .slice m.ka m.nk m.kc, .slice kk kn kc])) ∧ Onw w w' := by
  have hs' : ¬ (1 ≤ m.kind ∧ m.kind ≤ 14) := by
    intro h
    rw [← Bool.not_eq_true] at hs
    apply hs
    simpa [statB] using h
  clear hs
  have cs : m.kind = 20 ∨ m.kind = 21 ∨ m.kind = 22 ∨ m.kind = 23 ∨ m.kind = 24 ∨ m.kind = 25 ∨ m.kind = 26 ∨ m.kind = 27 ∨ m.kind = 28 ∨ m.kind = 29 ∨ m.kind = 30 ∨ m.kind = 33 ∨ m.kind = 31 ∨ m.kind = 32 ∨ m.kind = 34 ∨ m.kind = 35 ∨ m.kind = 36 ∨ m.kind = 37 ∨ m.kind = 38 ∨ (m.kind ≠ 20 ∧ m.kind ≠ 21 ∧ m.kind ≠ 22 ∧ m.kind ≠ 23 ∧ m.kind ≠ 24 ∧ m.kind ≠ 25 ∧ m.kind ≠ 26 ∧ m.kind ≠ 27 ∧ m.kind ≠ 28 ∧ m.kind ≠ 29 ∧ m.kind ≠ 30 ∧ m.kind ≠ 33 ∧ m.kind ≠ 31 ∧ m.kind ≠ 32 ∧ m.kind ≠ 34 ∧ m.kind ≠ 35 ∧ m.kind ≠ 36 ∧ m.kind ≠ 37 ∧ m.kind ≠ 38) := by omega
  rcases cs with hk | hk | hk | hk | hk | hk | hk | hk | hk | hk | hk | hk | hk | hk | hk | hk | hk | hk | hk | ⟨h20, h21, h22, h23, h24, h25, h26, h27, h28, h29, h30, h33, h31, h32, h34, h35, h36, h37, h38⟩
  · have T : Hid (formT m.kind = 149) := by show _ = _; rw [hk]; rfl
    have e20 : (m.kind == 20) = true := by rw [hk]; rfl
    clear hk hs'
    go_enter Tryz.func60, Tryz.ntmps60
    go_wp2_with fail
    go_ret
    exact ⟨by rw [T.out]; rfl, Onw.alloc _ _⟩
  · have T : Hid (formT m.kind = 149) := by show _ = _; rw [hk]; rfl
    have e20 : (m.kind == 20) = false := by rw [hk]; rfl
    have e21 : (m.kind == 21) = true := by rw [hk]; rfl
    clear hk hs'
    go_enter Tryz.func60, Tryz.ntmps60
    go_wp2_with fail
    go_ret
    exact ⟨by rw [T.out]; rfl, Onw.alloc _ _⟩
  · have T : Hid (formT m.kind = 149) := by show _ = _; rw [hk]; rfl
    have e20 : (m.kind == 20) = false := by rw [hk]; rfl
    have e21 : (m.kind == 21) = false := by rw [hk]; rfl
    have e22 : (m.kind == 22) = true := by rw [hk]; rfl
    clear hk hs'
    go_enter Tryz.func60, Tryz.ntmps60
    go_wp2_with fail
    go_ret
    exact ⟨by rw [T.out]; rfl, Onw.alloc _ _⟩
  · have T : Hid (formT m.kind = 150) := by show _ = _; rw [hk]; rfl
    have e20 : (m.kind == 20) = false := by rw [hk]; rfl
    have e21 : (m.kind == 21) = false := by rw [hk]; rfl
    have e22 : (m.kind == 22) = false := by rw [hk]; rfl
    have e23 : (m.kind == 23) = true := by rw [hk]; rfl
    clear hk hs'
    go_enter Tryz.func60, Tryz.ntmps60
    go_wp2_with fail
    go_ret
    exact ⟨by rw [T.out]; rfl, Onw.alloc _ _⟩
  · have T : Hid (formT m.kind = 151) := by show _ = _; rw [hk]; rfl
    have e20 : (m.kind == 20) = false := by rw [hk]; rfl
    have e21 : (m.kind == 21) = false := by rw [hk]; rfl
    have e22 : (m.kind == 22) = false := by rw [hk]; rfl
    have e23 : (m.kind == 23) = false := by rw [hk]; rfl
    have e24 : (m.kind == 24) = true := by rw [hk]; rfl
    clear hk hs'
    go_enter Tryz.func60, Tryz.ntmps60
    go_wp2_with fail
    go_ret
    exact ⟨by rw [T.out]; rfl, Onw.alloc _ _⟩
  · have T : Hid (formT m.kind = 152) := by show _ = _; rw [hk]; rfl
    have e20 : (m.kind == 20) = false := by rw [hk]; rfl
    have e21 : (m.kind == 21) = false := by rw [hk]; rfl
    have e22 : (m.kind == 22) = false := by rw [hk]; rfl
    have e23 : (m.kind == 23) = false := by rw [hk]; rfl
    have e24 : (m.kind == 24) = false := by rw [hk]; rfl
    have e25 : (m.kind == 25) = true := by rw [hk]; rfl
    clear hk hs'
    go_enter Tryz.func60, Tryz.ntmps60
    go_wp2_with fail
    go_ret
    exact ⟨by rw [T.out]; rfl, Onw.alloc _ _⟩
  · have T : Hid (formT m.kind = 102) := by show _ = _; rw [hk]; rfl
    have e20 : (m.kind == 20) = false := by rw [hk]; rfl
    have e21 : (m.kind == 21) = false := by rw [hk]; rfl
    have e22 : (m.kind == 22) = false := by rw [hk]; rfl
    have e23 : (m.kind == 23) = false := by rw [hk]; rfl
    have e24 : (m.kind == 24) = false := by rw [hk]; rfl
    have e25 : (m.kind == 25) = false := by rw [hk]; rfl
    have e26 : (m.kind == 26) = true := by rw [hk]; rfl
    clear hk hs'
    go_enter Tryz.func60, Tryz.ntmps60
    go_wp2_with fail
    go_ret
    exact ⟨by rw [T.out]; rfl, Onw.alloc _ _⟩
  · have T : Hid (formT m.kind = 105) := by show _ = _; rw [hk]; rfl
    have e20 : (m.kind == 20) = false := by rw [hk]; rfl
    have e21 : (m.kind == 21) = false := by rw [hk]; rfl
    have e22 : (m.kind == 22) = false := by rw [hk]; rfl
    have e23 : (m.kind == 23) = false := by rw [hk]; rfl
    have e24 : (m.kind == 24) = false := by rw [hk]; rfl
    have e25 : (m.kind == 25) = false := by rw [hk]; rfl
    have e26 : (m.kind == 26) = false := by rw [hk]; rfl
    have e27 : (m.kind == 27) = true := by rw [hk]; rfl
    clear hk hs'
    go_enter Tryz.func60, Tryz.ntmps60
    go_wp2_with fail
    go_ret
    exact ⟨by rw [T.out]; rfl, Onw.alloc _ _⟩
  · have T : Hid (formT m.kind = 153) := by show _ = _; rw [hk]; rfl
    have e20 : (m.kind == 20) = false := by rw [hk]; rfl
    have e21 : (m.kind == 21) = false := by rw [hk]; rfl
    have e22 : (m.kind == 22) = false := by rw [hk]; rfl
    have e23 : (m.kind == 23) = false := by rw [hk]; rfl
    have e24 : (m.kind == 24) = false := by rw [hk]; rfl
    have e25 : (m.kind == 25) = false := by rw [hk]; rfl
    have e26 : (m.kind == 26) = false := by rw [hk]; rfl
    have e27 : (m.kind == 27) = false := by rw [hk]; rfl
    have e28 : (m.kind == 28) = true := by rw [hk]; rfl
    clear hk hs'
    go_enter Tryz.func60, Tryz.ntmps60
    go_wp2_with fail
    go_ret
    exact ⟨by rw [T.out]; rfl, Onw.alloc _ _⟩
  · have T : Hid (formT m.kind = 154) := by show _ = _; rw [hk]; rfl
    have e20 : (m.kind == 20) = false := by rw [hk]; rfl
    have e21 : (m.kind == 21) = false := by rw [hk]; rfl
    have e22 : (m.kind == 22) = false := by rw [hk]; rfl
    have e23 : (m.kind == 23) = false := by rw [hk]; rfl
    have e24 : (m.kind == 24) = false := by rw [hk]; rfl
    have e25 : (m.kind == 25) = false := by rw [hk]; rfl
    have e26 : (m.kind == 26) = false := by rw [hk]; rfl
    have e27 : (m.kind == 27) = false := by rw [hk]; rfl
    have e28 : (m.kind == 28) = false := by rw [hk]; rfl
    have e29 : (m.kind == 29) = true := by rw [hk]; rfl
    clear hk hs'
    go_enter Tryz.func60, Tryz.ntmps60
    go_wp2_with fail
    go_ret
    exact ⟨by rw [T.out]; rfl, Onw.alloc _ _⟩
  · have T : Hid (formT m.kind = 154) := by show _ = _; rw [hk]; rfl
    have e20 : (m.kind == 20) = false := by rw [hk]; rfl
    have e21 : (m.kind == 21) = false := by rw [hk]; rfl
    have e22 : (m.kind == 22) = false := by rw [hk]; rfl
    have e23 : (m.kind == 23) = false := by rw [hk]; rfl
    have e24 : (m.kind == 24) = false := by rw [hk]; rfl
    have e25 : (m.kind == 25) = false := by rw [hk]; rfl
    have e26 : (m.kind == 26) = false := by rw [hk]; rfl
    have e27 : (m.kind == 27) = false := by rw [hk]; rfl
    have e28 : (m.kind == 28) = false := by rw [hk]; rfl
    have e29 : (m.kind == 29) = false := by rw [hk]; rfl
    have e30 : (m.kind == 30) = true := by rw [hk]; rfl
    clear hk hs'
    go_enter Tryz.func60, Tryz.ntmps60
    go_wp2_with fail
    go_ret
    exact ⟨by rw [T.out]; rfl, Onw.alloc _ _⟩
  · have T : Hid (formT m.kind = 154) := by show _ = _; rw [hk]; rfl
    have e20 : (m.kind == 20) = false := by rw [hk]; rfl
    have e21 : (m.kind == 21) = false := by rw [hk]; rfl
    have e22 : (m.kind == 22) = false := by rw [hk]; rfl
    have e23 : (m.kind == 23) = false := by rw [hk]; rfl
    have e24 : (m.kind == 24) = false := by rw [hk]; rfl
    have e25 : (m.kind == 25) = false := by rw [hk]; rfl
    have e26 : (m.kind == 26) = false := by rw [hk]; rfl
    have e27 : (m.kind == 27) = false := by rw [hk]; rfl
    have e28 : (m.kind == 28) = false := by rw [hk]; rfl
    have e29 : (m.kind == 29) = false := by rw [hk]; rfl
    have e30 : (m.kind == 30) = false := by rw [hk]; rfl
    have e33 : (m.kind == 33) = true := by rw [hk]; rfl
    clear hk hs'
    go_enter Tryz.func60, Tryz.ntmps60
    go_wp2_with fail
    go_ret
    exact ⟨by rw [T.out]; rfl, Onw.alloc _ _⟩
  · have T : Hid (formT m.kind = 155) := by show _ = _; rw [hk]; rfl
    have e20 : (m.kind == 20) = false := by rw [hk]; rfl
    have e21 : (m.kind == 21) = false := by rw [hk]; rfl
    have e22 : (m.kind == 22) = false := by rw [hk]; rfl
    have e23 : (m.kind == 23) = false := by rw [hk]; rfl
    have e24 : (m.kind == 24) = false := by rw [hk]; rfl
    have e25 : (m.kind == 25) = false := by rw [hk]; rfl
    have e26 : (m.kind == 26) = false := by rw [hk]; rfl
    have e27 : (m.kind == 27) = false := by rw [hk]; rfl
    have e28 : (m.kind == 28) = false := by rw [hk]; rfl
    have e29 : (m.kind == 29) = false := by rw [hk]; rfl
    have e30 : (m.kind == 30) = false := by rw [hk]; rfl
    have e33 : (m.kind == 33) = false := by rw [hk]; rfl
    have e31 : (m.kind == 31) = true := by rw [hk]; rfl
    clear hk hs'
    go_enter Tryz.func60, Tryz.ntmps60
    go_wp2_with fail
    go_ret
    exact ⟨by rw [T.out]; rfl, Onw.alloc _ _⟩
  · have T : Hid (formT m.kind = 156) := by show _ = _; rw [hk]; rfl
    have e20 : (m.kind == 20) = false := by rw [hk]; rfl
    have e21 : (m.kind == 21) = false := by rw [hk]; rfl
    have e22 : (m.kind == 22) = false := by rw [hk]; rfl
    have e23 : (m.kind == 23) = false := by rw [hk]; rfl
    have e24 : (m.kind == 24) = false := by rw [hk]; rfl
    have e25 : (m.kind == 25) = false := by rw [hk]; rfl
    have e26 : (m.kind == 26) = false := by rw [hk]; rfl
    have e27 : (m.kind == 27) = false := by rw [hk]; rfl
    have e28 : (m.kind == 28) = false := by rw [hk]; rfl
    have e29 : (m.kind == 29) = false := by rw [hk]; rfl
    have e30 : (m.kind == 30) = false := by rw [hk]; rfl
    have e33 : (m.kind == 33) = false := by rw [hk]; rfl
    have e31 : (m.kind == 31) = false := by rw [hk]; rfl
    have e32 : (m.kind == 32) = true := by rw [hk]; rfl
    clear hk hs'
    go_enter Tryz.func60, Tryz.ntmps60
    go_wp2_with fail
    go_ret
    exact ⟨by rw [T.out]; rfl, Onw.alloc _ _⟩
  · have T : Hid (formT m.kind = 157) := by show _ = _; rw [hk]; rfl
    have e20 : (m.kind == 20) = false := by rw [hk]; rfl
    have e21 : (m.kind == 21) = false := by rw [hk]; rfl
    have e22 : (m.kind == 22) = false := by rw [hk]; rfl
    have e23 : (m.kind == 23) = false := by rw [hk]; rfl
    have e24 : (m.kind == 24) = false := by rw [hk]; rfl
    have e25 : (m.kind == 25) = false := by rw [hk]; rfl
    have e26 : (m.kind == 26) = false := by rw [hk]; rfl
    have e27 : (m.kind == 27) = false := by rw [hk]; rfl
    have e28 : (m.kind == 28) = false := by rw [hk]; rfl
    have e29 : (m.kind == 29) = false := by rw [hk]; rfl
    have e30 : (m.kind == 30) = false := by rw [hk]; rfl
    have e33 : (m.kind == 33) = false := by rw [hk]; rfl
    have e31 : (m.kind == 31) = false := by rw [hk]; rfl
    have e32 : (m.kind == 32) = false := by rw [hk]; rfl
    have e34 : (m.kind == 34) = true := by rw [hk]; rfl
    clear hk hs'
    go_enter Tryz.func60, Tryz.ntmps60
    go_wp2_with fail
    go_ret
    exact ⟨by rw [T.out]; rfl, Onw.alloc _ _⟩
  · have T : Hid (formT m.kind = 158) := by show _ = _; rw [hk]; rfl
    have e20 : (m.kind == 20) = false := by rw [hk]; rfl
    have e21 : (m.kind == 21) = false := by rw [hk]; rfl
    have e22 : (m.kind == 22) = false := by rw [hk]; rfl
    have e23 : (m.kind == 23) = false := by rw [hk]; rfl
    have e24 : (m.kind == 24) = false := by rw [hk]; rfl
    have e25 : (m.kind == 25) = false := by rw [hk]; rfl
    have e26 : (m.kind == 26) = false := by rw [hk]; rfl
    have e27 : (m.kind == 27) = false := by rw [hk]; rfl
    have e28 : (m.kind == 28) = false := by rw [hk]; rfl
    have e29 : (m.kind == 29) = false := by rw [hk]; rfl
    have e30 : (m.kind == 30) = false := by rw [hk]; rfl
    have e33 : (m.kind == 33) = false := by rw [hk]; rfl
    have e31 : (m.kind == 31) = false := by rw [hk]; rfl
    have e32 : (m.kind == 32) = false := by rw [hk]; rfl
    have e34 : (m.kind == 34) = false := by rw [hk]; rfl
    have e35 : (m.kind == 35) = true := by rw [hk]; rfl
    clear hk hs'
    go_enter Tryz.func60, Tryz.ntmps60
    go_wp2_with fail
    go_ret
    exact ⟨by rw [T.out]; rfl, Onw.alloc _ _⟩
  · have T : Hid (formT m.kind = 92) := by show _ = _; rw [hk]; rfl
    have e20 : (m.kind == 20) = false := by rw [hk]; rfl
    have e21 : (m.kind == 21) = false := by rw [hk]; rfl
    have e22 : (m.kind == 22) = false := by rw [hk]; rfl
    have e23 : (m.kind == 23) = false := by rw [hk]; rfl
    have e24 : (m.kind == 24) = false := by rw [hk]; rfl
    have e25 : (m.kind == 25) = false := by rw [hk]; rfl
    have e26 : (m.kind == 26) = false := by rw [hk]; rfl
    have e27 : (m.kind == 27) = false := by rw [hk]; rfl
    have e28 : (m.kind == 28) = false := by rw [hk]; rfl
    have e29 : (m.kind == 29) = false := by rw [hk]; rfl
    have e30 : (m.kind == 30) = false := by rw [hk]; rfl
    have e33 : (m.kind == 33) = false := by rw [hk]; rfl
    have e31 : (m.kind == 31) = false := by rw [hk]; rfl
    have e32 : (m.kind == 32) = false := by rw [hk]; rfl
    have e34 : (m.kind == 34) = false := by rw [hk]; rfl
    have e35 : (m.kind == 35) = false := by rw [hk]; rfl
    have e36 : (m.kind == 36) = true := by rw [hk]; rfl
    clear hk hs'
    go_enter Tryz.func60, Tryz.ntmps60
    go_wp2_with fail
    go_ret
    exact ⟨by rw [T.out]; rfl, Onw.alloc _ _⟩
  · have T : Hid (formT m.kind = 108) := by show _ = _; rw [hk]; rfl
    have e20 : (m.kind == 20) = false := by rw [hk]; rfl
    have e21 : (m.kind == 21) = false := by rw [hk]; rfl
    have e22 : (m.kind == 22) = false := by rw [hk]; rfl
    have e23 : (m.kind == 23) = false := by rw [hk]; rfl
    have e24 : (m.kind == 24) = false := by rw [hk]; rfl
    have e25 : (m.kind == 25) = false := by rw [hk]; rfl
    have e26 : (m.kind == 26) = false := by rw [hk]; rfl
    have e27 : (m.kind == 27) = false := by rw [hk]; rfl
    have e28 : (m.kind == 28) = false := by rw [hk]; rfl
    have e29 : (m.kind == 29) = false := by rw [hk]; rfl
    have e30 : (m.kind == 30) = false := by rw [hk]; rfl
    have e33 : (m.kind == 33) = false := by rw [hk]; rfl
    have e31 : (m.kind == 31) = false := by rw [hk]; rfl
    have e32 : (m.kind == 32) = false := by rw [hk]; rfl
    have e34 : (m.kind == 34) = false := by rw [hk]; rfl
    have e35 : (m.kind == 35) = false := by rw [hk]; rfl
    have e36 : (m.kind == 36) = false := by rw [hk]; rfl
    have e37 : (m.kind == 37) = true := by rw [hk]; rfl
    clear hk hs'
    go_enter Tryz.func60, Tryz.ntmps60
    go_wp2_with fail
    go_ret
    exact ⟨by rw [T.out]; rfl, Onw.alloc _ _⟩
  · have T : Hid (formT m.kind = 159) := by show _ = _; rw [hk]; rfl
    have e20 : (m.kind == 20) = false := by rw [hk]; rfl
    have e21 : (m.kind == 21) = false := by rw [hk]; rfl
    have e22 : (m.kind == 22) = false := by rw [hk]; rfl
    have e23 : (m.kind == 23) = false := by rw [hk]; rfl
    have e24 : (m.kind == 24) = false := by rw [hk]; rfl
    have e25 : (m.kind == 25) = false := by rw [hk]; rfl
    have e26 : (m.kind == 26) = false := by rw [hk]; rfl
    have e27 : (m.kind == 27) = false := by rw [hk]; rfl
    have e28 : (m.kind == 28) = false := by rw [hk]; rfl
    have e29 : (m.kind == 29) = false := by rw [hk]; rfl
    have e30 : (m.kind == 30) = false := by rw [hk]; rfl
    have e33 : (m.kind == 33) = false := by rw [hk]; rfl
    have e31 : (m.kind == 31) = false := by rw [hk]; rfl
    have e32 : (m.kind == 32) = false := by rw [hk]; rfl
    have e34 : (m.kind == 34) = false := by rw [hk]; rfl
    have e35 : (m.kind == 35) = false := by rw [hk]; rfl
    have e36 : (m.kind == 36) = false := by rw [hk]; rfl
    have e37 : (m.kind == 37) = false := by rw [hk]; rfl
    have e38 : (m.kind == 38) = true := by rw [hk]; rfl
    clear hk hs'
    go_enter Tryz.func60, Tryz.ntmps60
    go_wp2_with fail
    go_ret
    exact ⟨by rw [T.out]; rfl, Onw.alloc _ _⟩
  · have T : Hid (formT m.kind = 121) := by
      show _ = _
      unfold formT
      repeat (rw [if_neg (by omega)])
    have e20 : (m.kind == 20) = false := by simp [h20]
    have e21 : (m.kind == 21) = false := by simp [h21]
    have e22 : (m.kind == 22) = false := by simp [h22]
    have e23 : (m.kind == 23) = false := by simp [h23]
    have e24 : (m.kind == 24) = false := by simp [h24]
    have e25 : (m.kind == 25) = false := by simp [h25]
    have e26 : (m.kind == 26) = false := by simp [h26]
    have e27 : (m.kind == 27) = false := by simp [h27]
    have e28 : (m.kind == 28) = false := by simp [h28]
    have e29 : (m.kind == 29) = false := by simp [h29]
    have e30 : (m.kind == 30) = false := by simp [h30]
    have e33 : (m.kind == 33) = false := by simp [h33]
    have e31 : (m.kind == 31) = false := by simp [h31]
    have e32 : (m.kind == 32) = false := by simp [h32]
    have e34 : (m.kind == 34) = false := by simp [h34]
    have e35 : (m.kind == 35) = false := by simp [h35]
    have e36 : (m.kind == 36) = false := by simp [h36]
    have e37 : (m.kind == 37) = false := by simp [h37]
    have e38 : (m.kind == 38) = false := by simp [h38]
    clear hs' h20 h21 h22 h23 h24 h25 h26 h27 h28 h29 h30 h33 h31 h32 h34 h35 h36 h37 h38
    go_enter Tryz.func60, Tryz.ntmps60
    go_wp2_with fail
    go_ret
    exact ⟨by rw [T.out]; rfl, Onw.alloc _ _⟩
end Go.Proofs.YtjebijnndfkinaaGreat
