import Derived.Test.YtnokgdgikdgaeaaP04
namespace Go.Proofs.Ytnokgdgikdgaeaa
open Go.RowKit
attribute [local go_sem] run_store_float

theorem top_any (m : PM) (p : Int) (kk : Option Addr) (kn kc : Nat) (w : World) :
    Calls Try.prog 79 #[.agg #[.int .i64 p, .int .i64 m.kind, .int .i64 m.frm, .int .i64 m.tto, .int .i64 m.line, .int .i64 m.op, .int .i64 m.num, .float .f64 m.flt, .string m.text, .slice m.na m.nn m.nc, .slice m.ka m.nk m.kc, .slice kk kn kc]] w fun e w' => e = .returned (.agg #[.int .i64 p, .int .i64 m.kind, .int .i64 m.frm, .int .i64 m.tto, .int .i64 m.line, .int .i64 m.op, .int .i64 m.num, .float .f64 m.flt, .string m.text, .slice m.na m.nn m.nc, .slice m.ka m.nk m.kc, .slice kk kn kc]) ∧ Onw w w' := by
  go_enter Try.func79, Try.ntmps79
  go_wp2
  exact bodyPost_ret (v := .agg #[.int .i64 p, .int .i64 m.kind, .int .i64 m.frm, .int .i64 m.tto, .int .i64 m.line, .int .i64 m.op, .int .i64 m.num, .float .f64 m.flt, .string m.text, .slice m.na m.nn m.nc, .slice m.ka m.nk m.kc, .slice kk kn kc]) (by simp [results, Try.results79, go_sem]) rfl ⟨rfl, (Onw.alloc _ _).trans (Onw.alloc _ _)⟩

theorem family_statementHeader (m : PM) (p : Int) (kk : Option Addr) (kn kc : Nat) (w : World) :
    Calls Try.prog 80 #[.agg #[.int .i64 p, .int .i64 m.kind, .int .i64 m.frm, .int .i64 m.tto, .int .i64 m.line, .int .i64 m.op, .int .i64 m.num, .float .f64 m.flt, .string m.text, .slice m.na m.nn m.nc, .slice m.ka m.nk m.kc, .slice kk kn kc]] w fun e w' => e = .returned (.int .i64 1) ∧ Onw w w' := by
  go_enter Try.func80, Try.ntmps80
  go_wp2_with fail
  go_ret
  exact ⟨rfl, by first | exact Onw.refl _ | exact Onw.alloc _ _ | exact (Onw.alloc _ _).trans (Onw.alloc _ _)⟩

theorem family_expressionHeader (m : PM) (p : Int) (kk : Option Addr) (kn kc : Nat) (w : World) :
    Calls Try.prog 82 #[.agg #[.int .i64 p, .int .i64 m.kind, .int .i64 m.frm, .int .i64 m.tto, .int .i64 m.line, .int .i64 m.op, .int .i64 m.num, .float .f64 m.flt, .string m.text, .slice m.na m.nn m.nc, .slice m.ka m.nk m.kc, .slice kk kn kc]] w fun e w' => e = .returned (.int .i64 24) ∧ Onw w w' := by
  go_enter Try.func82, Try.ntmps82
  go_wp2_with fail
  go_ret
  exact ⟨rfl, by first | exact Onw.refl _ | exact Onw.alloc _ _ | exact (Onw.alloc _ _).trans (Onw.alloc _ _)⟩

theorem family_entryHeader (m : PM) (p : Int) (kk : Option Addr) (kn kc : Nat) (w : World) :
    Calls Try.prog 83 #[.agg #[.int .i64 p, .int .i64 m.kind, .int .i64 m.frm, .int .i64 m.tto, .int .i64 m.line, .int .i64 m.op, .int .i64 m.num, .float .f64 m.flt, .string m.text, .slice m.na m.nn m.nc, .slice m.ka m.nk m.kc, .slice kk kn kc]] w fun e w' => e = .returned (.int .i64 512) ∧ Onw w w' := by
  go_enter Try.func83, Try.ntmps83
  go_wp2_with fail
  go_ret
  exact ⟨rfl, by first | exact Onw.refl _ | exact Onw.alloc _ _ | exact (Onw.alloc _ _).trans (Onw.alloc _ _)⟩

theorem family_partHeader (m : PM) (p : Int) (kk : Option Addr) (kn kc : Nat) (w : World) :
    Calls Try.prog 77 #[.agg #[.int .i64 p, .int .i64 m.kind, .int .i64 m.frm, .int .i64 m.tto, .int .i64 m.line, .int .i64 m.op, .int .i64 m.num, .float .f64 m.flt, .string m.text, .slice m.na m.nn m.nc, .slice m.ka m.nk m.kc, .slice kk kn kc]] w fun e w' => e = .returned (.int .i64 0) ∧ Onw w w' := by
  go_enter Try.func77, Try.ntmps77
  go_wp2_with fail
  go_ret
  exact ⟨rfl, by first | exact Onw.refl _ | exact Onw.alloc _ _ | exact (Onw.alloc _ _).trans (Onw.alloc _ _)⟩

theorem leastLine_statementHeader (m : PM) (p : Int) (kk : Option Addr) (kn kc : Nat) (w : World) :
    Calls Try.prog 81 #[.agg #[.int .i64 p, .int .i64 m.kind, .int .i64 m.frm, .int .i64 m.tto, .int .i64 m.line, .int .i64 m.op, .int .i64 m.num, .float .f64 m.flt, .string m.text, .slice m.na m.nn m.nc, .slice m.ka m.nk m.kc, .slice kk kn kc]] w fun e w' => e = .returned (.int .i64 1) ∧ Onw w w' := by
  go_enter Try.func81, Try.ntmps81
  go_wp2_with fail
  go_ret
  exact ⟨rfl, by first | exact Onw.refl _ | exact Onw.alloc _ _ | exact (Onw.alloc _ _).trans (Onw.alloc _ _)⟩

theorem leastLine_partHeader (m : PM) (p : Int) (kk : Option Addr) (kn kc : Nat) (w : World) :
    Calls Try.prog 78 #[.agg #[.int .i64 p, .int .i64 m.kind, .int .i64 m.frm, .int .i64 m.tto, .int .i64 m.line, .int .i64 m.op, .int .i64 m.num, .float .f64 m.flt, .string m.text, .slice m.na m.nn m.nc, .slice m.ka m.nk m.kc, .slice kk kn kc]] w fun e w' => e = .returned (.int .i64 0) ∧ Onw w w' := by
  go_enter Try.func78, Try.ntmps78
  go_wp2_with fail
  go_ret
  exact ⟨rfl, by first | exact Onw.refl _ | exact Onw.alloc _ _ | exact (Onw.alloc _ _).trans (Onw.alloc _ _)⟩

set_option maxHeartbeats 1000000 in
theorem rolesOf_nil (w : World) : Calls Try.prog 58 #[.nilIface] w fun e w' => e = .returned (.int .i64 0) ∧ Onw w w' := by
  go_enter Try.func58, Try.ntmps58
  go_wp2_with fail
  go_ret
  exact ⟨rfl, by first | exact Onw.refl _ | exact Onw.alloc _ _ | exact (Onw.alloc _ _).trans (Onw.alloc _ _)⟩

set_option maxRecDepth 100000 in
set_option maxHeartbeats 2000000 in
theorem rolesOf_block (m : PM) (p : Int) (kk : Option Addr) (kn kc : Nat) (w : World) : Calls Try.prog 58 #[.iface 81 (.agg #[.int .i64 p, .int .i64 m.kind, .int .i64 m.frm, .int .i64 m.tto, .int .i64 m.line, .int .i64 m.op, .int .i64 m.num, .float .f64 m.flt, .string m.text, .slice m.na m.nn m.nc, .slice m.ka m.nk m.kc, .slice kk kn kc])] w fun e w' => e = .returned (.int .i64 7) ∧ Onw w w' := by
  have a_block := as_block_yes
  go_enter Try.func58, Try.ntmps58
  go_wp2_with fail
  go_ret
  exact ⟨rfl, by first | exact Onw.refl _ | exact Onw.alloc _ _ | exact (Onw.alloc _ _).trans (Onw.alloc _ _)⟩

set_option maxRecDepth 100000 in
set_option maxHeartbeats 2000000 in
theorem rolesOf_let (m : PM) (p : Int) (kk : Option Addr) (kn kc : Nat) (w : World) : Calls Try.prog 58 #[.iface 84 (.agg #[.int .i64 p, .int .i64 m.kind, .int .i64 m.frm, .int .i64 m.tto, .int .i64 m.line, .int .i64 m.op, .int .i64 m.num, .float .f64 m.flt, .string m.text, .slice m.na m.nn m.nc, .slice m.ka m.nk m.kc, .slice kk kn kc])] w fun e w' => e = .returned (.int .i64 1) ∧ Onw w w' := by
  have a_block := as_block_no (t := 84) (by decide)
  have a_if := as_if_no (t := 84) (by decide)
  have a_rest := as_rest_no (t := 84) (by decide)
  have a_call := as_call_no (t := 84) (by decide)
  have a_name := as_name_no (t := 84) (by decide)
  have a_index := as_index_no (t := 84) (by decide)
  have a_field := as_field_no (t := 84) (by decide)
  have a_fn := as_fn_no (t := 84) (by decide)
  have mf := meth_family_let
  go_enter Try.func58, Try.ntmps58
  go_wp2_with fail
  refine (family_statementHeader m p kk kn kc _).mono ?_
  rintro e w1 ⟨rfl, hb1⟩
  go_wp2_with fail
  go_ret
  exact ⟨rfl, by first | exact hb1 | exact (Onw.alloc _ _).trans hb1⟩

set_option maxRecDepth 100000 in
set_option maxHeartbeats 2000000 in
theorem rolesOf_const (m : PM) (p : Int) (kk : Option Addr) (kn kc : Nat) (w : World) : Calls Try.prog 58 #[.iface 85 (.agg #[.int .i64 p, .int .i64 m.kind, .int .i64 m.frm, .int .i64 m.tto, .int .i64 m.line, .int .i64 m.op, .int .i64 m.num, .float .f64 m.flt, .string m.text, .slice m.na m.nn m.nc, .slice m.ka m.nk m.kc, .slice kk kn kc])] w fun e w' => e = .returned (.int .i64 1) ∧ Onw w w' := by
  have a_block := as_block_no (t := 85) (by decide)
  have a_if := as_if_no (t := 85) (by decide)
  have a_rest := as_rest_no (t := 85) (by decide)
  have a_call := as_call_no (t := 85) (by decide)
  have a_name := as_name_no (t := 85) (by decide)
  have a_index := as_index_no (t := 85) (by decide)
  have a_field := as_field_no (t := 85) (by decide)
  have a_fn := as_fn_no (t := 85) (by decide)
  have mf := meth_family_const
  go_enter Try.func58, Try.ntmps58
  go_wp2_with fail
  refine (family_statementHeader m p kk kn kc _).mono ?_
  rintro e w1 ⟨rfl, hb1⟩
  go_wp2_with fail
  go_ret
  exact ⟨rfl, by first | exact hb1 | exact (Onw.alloc _ _).trans hb1⟩

set_option maxRecDepth 100000 in
set_option maxHeartbeats 2000000 in
theorem rolesOf_ownFn (m : PM) (p : Int) (kk : Option Addr) (kn kc : Nat) (w : World) : Calls Try.prog 58 #[.iface 87 (.agg #[.int .i64 p, .int .i64 m.kind, .int .i64 m.frm, .int .i64 m.tto, .int .i64 m.line, .int .i64 m.op, .int .i64 m.num, .float .f64 m.flt, .string m.text, .slice m.na m.nn m.nc, .slice m.ka m.nk m.kc, .slice kk kn kc])] w fun e w' => e = .returned (.int .i64 1) ∧ Onw w w' := by
  have a_block := as_block_no (t := 87) (by decide)
  have a_if := as_if_no (t := 87) (by decide)
  have a_rest := as_rest_no (t := 87) (by decide)
  have a_call := as_call_no (t := 87) (by decide)
  have a_name := as_name_no (t := 87) (by decide)
  have a_index := as_index_no (t := 87) (by decide)
  have a_field := as_field_no (t := 87) (by decide)
  have a_fn := as_fn_no (t := 87) (by decide)
  have mf := meth_family_ownFn
  go_enter Try.func58, Try.ntmps58
  go_wp2_with fail
  refine (family_statementHeader m p kk kn kc _).mono ?_
  rintro e w1 ⟨rfl, hb1⟩
  go_wp2_with fail
  go_ret
  exact ⟨rfl, by first | exact hb1 | exact (Onw.alloc _ _).trans hb1⟩

set_option maxRecDepth 100000 in
set_option maxHeartbeats 2000000 in
theorem rolesOf_set (m : PM) (p : Int) (kk : Option Addr) (kn kc : Nat) (w : World) : Calls Try.prog 58 #[.iface 88 (.agg #[.int .i64 p, .int .i64 m.kind, .int .i64 m.frm, .int .i64 m.tto, .int .i64 m.line, .int .i64 m.op, .int .i64 m.num, .float .f64 m.flt, .string m.text, .slice m.na m.nn m.nc, .slice m.ka m.nk m.kc, .slice kk kn kc])] w fun e w' => e = .returned (.int .i64 1) ∧ Onw w w' := by
  have a_block := as_block_no (t := 88) (by decide)
  have a_if := as_if_no (t := 88) (by decide)
  have a_rest := as_rest_no (t := 88) (by decide)
  have a_call := as_call_no (t := 88) (by decide)
  have a_name := as_name_no (t := 88) (by decide)
  have a_index := as_index_no (t := 88) (by decide)
  have a_field := as_field_no (t := 88) (by decide)
  have a_fn := as_fn_no (t := 88) (by decide)
  have mf := meth_family_set
  go_enter Try.func58, Try.ntmps58
  go_wp2_with fail
  refine (family_statementHeader m p kk kn kc _).mono ?_
  rintro e w1 ⟨rfl, hb1⟩
  go_wp2_with fail
  go_ret
  exact ⟨rfl, by first | exact hb1 | exact (Onw.alloc _ _).trans hb1⟩

set_option maxRecDepth 100000 in
set_option maxHeartbeats 2000000 in
theorem rolesOf_do (m : PM) (p : Int) (kk : Option Addr) (kn kc : Nat) (w : World) : Calls Try.prog 58 #[.iface 90 (.agg #[.int .i64 p, .int .i64 m.kind, .int .i64 m.frm, .int .i64 m.tto, .int .i64 m.line, .int .i64 m.op, .int .i64 m.num, .float .f64 m.flt, .string m.text, .slice m.na m.nn m.nc, .slice m.ka m.nk m.kc, .slice kk kn kc])] w fun e w' => e = .returned (.int .i64 1) ∧ Onw w w' := by
  have a_block := as_block_no (t := 90) (by decide)
  have a_if := as_if_no (t := 90) (by decide)
  have a_rest := as_rest_no (t := 90) (by decide)
  have a_call := as_call_no (t := 90) (by decide)
  have a_name := as_name_no (t := 90) (by decide)
  have a_index := as_index_no (t := 90) (by decide)
  have a_field := as_field_no (t := 90) (by decide)
  have a_fn := as_fn_no (t := 90) (by decide)
  have mf := meth_family_do
  go_enter Try.func58, Try.ntmps58
  go_wp2_with fail
  refine (family_statementHeader m p kk kn kc _).mono ?_
  rintro e w1 ⟨rfl, hb1⟩
  go_wp2_with fail
  go_ret
  exact ⟨rfl, by first | exact hb1 | exact (Onw.alloc _ _).trans hb1⟩

set_option maxRecDepth 100000 in
set_option maxHeartbeats 2000000 in
theorem rolesOf_if (m : PM) (p : Int) (kk : Option Addr) (kn kc : Nat) (w : World) : Calls Try.prog 58 #[.iface 91 (.agg #[.int .i64 p, .int .i64 m.kind, .int .i64 m.frm, .int .i64 m.tto, .int .i64 m.line, .int .i64 m.op, .int .i64 m.num, .float .f64 m.flt, .string m.text, .slice m.na m.nn m.nc, .slice m.ka m.nk m.kc, .slice kk kn kc])] w fun e w' => e = .returned (.int .i64 5) ∧ Onw w w' := by
  have a_block := as_block_no (t := 91) (by decide)
  have a_if := as_if_yes
  go_enter Try.func58, Try.ntmps58
  go_wp2_with fail
  go_ret
  exact ⟨rfl, by first | exact Onw.refl _ | exact Onw.alloc _ _ | exact (Onw.alloc _ _).trans (Onw.alloc _ _)⟩

set_option maxRecDepth 100000 in
set_option maxHeartbeats 2000000 in
theorem rolesOf_while (m : PM) (p : Int) (kk : Option Addr) (kn kc : Nat) (w : World) : Calls Try.prog 58 #[.iface 92 (.agg #[.int .i64 p, .int .i64 m.kind, .int .i64 m.frm, .int .i64 m.tto, .int .i64 m.line, .int .i64 m.op, .int .i64 m.num, .float .f64 m.flt, .string m.text, .slice m.na m.nn m.nc, .slice m.ka m.nk m.kc, .slice kk kn kc])] w fun e w' => e = .returned (.int .i64 1) ∧ Onw w w' := by
  have a_block := as_block_no (t := 92) (by decide)
  have a_if := as_if_no (t := 92) (by decide)
  have a_rest := as_rest_no (t := 92) (by decide)
  have a_call := as_call_no (t := 92) (by decide)
  have a_name := as_name_no (t := 92) (by decide)
  have a_index := as_index_no (t := 92) (by decide)
  have a_field := as_field_no (t := 92) (by decide)
  have a_fn := as_fn_no (t := 92) (by decide)
  have mf := meth_family_while
  go_enter Try.func58, Try.ntmps58
  go_wp2_with fail
  refine (family_statementHeader m p kk kn kc _).mono ?_
  rintro e w1 ⟨rfl, hb1⟩
  go_wp2_with fail
  go_ret
  exact ⟨rfl, by first | exact hb1 | exact (Onw.alloc _ _).trans hb1⟩

set_option maxRecDepth 100000 in
set_option maxHeartbeats 2000000 in
theorem rolesOf_for (m : PM) (p : Int) (kk : Option Addr) (kn kc : Nat) (w : World) : Calls Try.prog 58 #[.iface 93 (.agg #[.int .i64 p, .int .i64 m.kind, .int .i64 m.frm, .int .i64 m.tto, .int .i64 m.line, .int .i64 m.op, .int .i64 m.num, .float .f64 m.flt, .string m.text, .slice m.na m.nn m.nc, .slice m.ka m.nk m.kc, .slice kk kn kc])] w fun e w' => e = .returned (.int .i64 1) ∧ Onw w w' := by
  have a_block := as_block_no (t := 93) (by decide)
  have a_if := as_if_no (t := 93) (by decide)
  have a_rest := as_rest_no (t := 93) (by decide)
  have a_call := as_call_no (t := 93) (by decide)
  have a_name := as_name_no (t := 93) (by decide)
  have a_index := as_index_no (t := 93) (by decide)
  have a_field := as_field_no (t := 93) (by decide)
  have a_fn := as_fn_no (t := 93) (by decide)
  have mf := meth_family_for
  go_enter Try.func58, Try.ntmps58
  go_wp2_with fail
  refine (family_statementHeader m p kk kn kc _).mono ?_
  rintro e w1 ⟨rfl, hb1⟩
  go_wp2_with fail
  go_ret
  exact ⟨rfl, by first | exact hb1 | exact (Onw.alloc _ _).trans hb1⟩

set_option maxRecDepth 100000 in
set_option maxHeartbeats 2000000 in
theorem rolesOf_each (m : PM) (p : Int) (kk : Option Addr) (kn kc : Nat) (w : World) : Calls Try.prog 58 #[.iface 94 (.agg #[.int .i64 p, .int .i64 m.kind, .int .i64 m.frm, .int .i64 m.tto, .int .i64 m.line, .int .i64 m.op, .int .i64 m.num, .float .f64 m.flt, .string m.text, .slice m.na m.nn m.nc, .slice m.ka m.nk m.kc, .slice kk kn kc])] w fun e w' => e = .returned (.int .i64 1) ∧ Onw w w' := by
  have a_block := as_block_no (t := 94) (by decide)
  have a_if := as_if_no (t := 94) (by decide)
  have a_rest := as_rest_no (t := 94) (by decide)
  have a_call := as_call_no (t := 94) (by decide)
  have a_name := as_name_no (t := 94) (by decide)
  have a_index := as_index_no (t := 94) (by decide)
  have a_field := as_field_no (t := 94) (by decide)
  have a_fn := as_fn_no (t := 94) (by decide)
  have mf := meth_family_each
  go_enter Try.func58, Try.ntmps58
  go_wp2_with fail
  refine (family_statementHeader m p kk kn kc _).mono ?_
  rintro e w1 ⟨rfl, hb1⟩
  go_wp2_with fail
  go_ret
  exact ⟨rfl, by first | exact hb1 | exact (Onw.alloc _ _).trans hb1⟩

set_option maxRecDepth 100000 in
set_option maxHeartbeats 2000000 in
theorem rolesOf_jump (m : PM) (p : Int) (kk : Option Addr) (kn kc : Nat) (w : World) : Calls Try.prog 58 #[.iface 95 (.agg #[.int .i64 p, .int .i64 m.kind, .int .i64 m.frm, .int .i64 m.tto, .int .i64 m.line, .int .i64 m.op, .int .i64 m.num, .float .f64 m.flt, .string m.text, .slice m.na m.nn m.nc, .slice m.ka m.nk m.kc, .slice kk kn kc])] w fun e w' => e = .returned (.int .i64 1) ∧ Onw w w' := by
  have a_block := as_block_no (t := 95) (by decide)
  have a_if := as_if_no (t := 95) (by decide)
  have a_rest := as_rest_no (t := 95) (by decide)
  have a_call := as_call_no (t := 95) (by decide)
  have a_name := as_name_no (t := 95) (by decide)
  have a_index := as_index_no (t := 95) (by decide)
  have a_field := as_field_no (t := 95) (by decide)
  have a_fn := as_fn_no (t := 95) (by decide)
  have mf := meth_family_jump
  go_enter Try.func58, Try.ntmps58
  go_wp2_with fail
  refine (family_statementHeader m p kk kn kc _).mono ?_
  rintro e w1 ⟨rfl, hb1⟩
  go_wp2_with fail
  go_ret
  exact ⟨rfl, by first | exact hb1 | exact (Onw.alloc _ _).trans hb1⟩

set_option maxRecDepth 100000 in
set_option maxHeartbeats 2000000 in
theorem rolesOf_return (m : PM) (p : Int) (kk : Option Addr) (kn kc : Nat) (w : World) : Calls Try.prog 58 #[.iface 96 (.agg #[.int .i64 p, .int .i64 m.kind, .int .i64 m.frm, .int .i64 m.tto, .int .i64 m.line, .int .i64 m.op, .int .i64 m.num, .float .f64 m.flt, .string m.text, .slice m.na m.nn m.nc, .slice m.ka m.nk m.kc, .slice kk kn kc])] w fun e w' => e = .returned (.int .i64 1) ∧ Onw w w' := by
  have a_block := as_block_no (t := 96) (by decide)
  have a_if := as_if_no (t := 96) (by decide)
  have a_rest := as_rest_no (t := 96) (by decide)
  have a_call := as_call_no (t := 96) (by decide)
  have a_name := as_name_no (t := 96) (by decide)
  have a_index := as_index_no (t := 96) (by decide)
  have a_field := as_field_no (t := 96) (by decide)
  have a_fn := as_fn_no (t := 96) (by decide)
  have mf := meth_family_return
  go_enter Try.func58, Try.ntmps58
  go_wp2_with fail
  refine (family_statementHeader m p kk kn kc _).mono ?_
  rintro e w1 ⟨rfl, hb1⟩
  go_wp2_with fail
  go_ret
  exact ⟨rfl, by first | exact hb1 | exact (Onw.alloc _ _).trans hb1⟩

set_option maxRecDepth 100000 in
set_option maxHeartbeats 2000000 in
theorem rolesOf_try (m : PM) (p : Int) (kk : Option Addr) (kn kc : Nat) (w : World) : Calls Try.prog 58 #[.iface 97 (.agg #[.int .i64 p, .int .i64 m.kind, .int .i64 m.frm, .int .i64 m.tto, .int .i64 m.line, .int .i64 m.op, .int .i64 m.num, .float .f64 m.flt, .string m.text, .slice m.na m.nn m.nc, .slice m.ka m.nk m.kc, .slice kk kn kc])] w fun e w' => e = .returned (.int .i64 1) ∧ Onw w w' := by
  have a_block := as_block_no (t := 97) (by decide)
  have a_if := as_if_no (t := 97) (by decide)
  have a_rest := as_rest_no (t := 97) (by decide)
  have a_call := as_call_no (t := 97) (by decide)
  have a_name := as_name_no (t := 97) (by decide)
  have a_index := as_index_no (t := 97) (by decide)
  have a_field := as_field_no (t := 97) (by decide)
  have a_fn := as_fn_no (t := 97) (by decide)
  have mf := meth_family_try
  go_enter Try.func58, Try.ntmps58
  go_wp2_with fail
  refine (family_statementHeader m p kk kn kc _).mono ?_
  rintro e w1 ⟨rfl, hb1⟩
  go_wp2_with fail
  go_ret
  exact ⟨rfl, by first | exact hb1 | exact (Onw.alloc _ _).trans hb1⟩

set_option maxRecDepth 100000 in
set_option maxHeartbeats 2000000 in
theorem rolesOf_throw (m : PM) (p : Int) (kk : Option Addr) (kn kc : Nat) (w : World) : Calls Try.prog 58 #[.iface 98 (.agg #[.int .i64 p, .int .i64 m.kind, .int .i64 m.frm, .int .i64 m.tto, .int .i64 m.line, .int .i64 m.op, .int .i64 m.num, .float .f64 m.flt, .string m.text, .slice m.na m.nn m.nc, .slice m.ka m.nk m.kc, .slice kk kn kc])] w fun e w' => e = .returned (.int .i64 1) ∧ Onw w w' := by
  have a_block := as_block_no (t := 98) (by decide)
  have a_if := as_if_no (t := 98) (by decide)
  have a_rest := as_rest_no (t := 98) (by decide)
  have a_call := as_call_no (t := 98) (by decide)
  have a_name := as_name_no (t := 98) (by decide)
  have a_index := as_index_no (t := 98) (by decide)
  have a_field := as_field_no (t := 98) (by decide)
  have a_fn := as_fn_no (t := 98) (by decide)
  have mf := meth_family_throw
  go_enter Try.func58, Try.ntmps58
  go_wp2_with fail
  refine (family_statementHeader m p kk kn kc _).mono ?_
  rintro e w1 ⟨rfl, hb1⟩
  go_wp2_with fail
  go_ret
  exact ⟨rfl, by first | exact hb1 | exact (Onw.alloc _ _).trans hb1⟩

set_option maxRecDepth 100000 in
set_option maxHeartbeats 2000000 in
theorem rolesOf_bare (m : PM) (p : Int) (kk : Option Addr) (kn kc : Nat) (w : World) : Calls Try.prog 58 #[.iface 100 (.agg #[.int .i64 p, .int .i64 m.kind, .int .i64 m.frm, .int .i64 m.tto, .int .i64 m.line, .int .i64 m.op, .int .i64 m.num, .float .f64 m.flt, .string m.text, .slice m.na m.nn m.nc, .slice m.ka m.nk m.kc, .slice kk kn kc])] w fun e w' => e = .returned (.int .i64 24) ∧ Onw w w' := by
  have a_block := as_block_no (t := 100) (by decide)
  have a_if := as_if_no (t := 100) (by decide)
  have a_rest := as_rest_no (t := 100) (by decide)
  have a_call := as_call_no (t := 100) (by decide)
  have a_name := as_name_no (t := 100) (by decide)
  have a_index := as_index_no (t := 100) (by decide)
  have a_field := as_field_no (t := 100) (by decide)
  have a_fn := as_fn_no (t := 100) (by decide)
  have mf := meth_family_bare
  go_enter Try.func58, Try.ntmps58
  go_wp2_with fail
  refine (family_expressionHeader m p kk kn kc _).mono ?_
  rintro e w1 ⟨rfl, hb1⟩
  go_wp2_with fail
  go_ret
  exact ⟨rfl, by first | exact hb1 | exact (Onw.alloc _ _).trans hb1⟩

set_option maxRecDepth 100000 in
set_option maxHeartbeats 2000000 in
theorem rolesOf_int (m : PM) (p : Int) (kk : Option Addr) (kn kc : Nat) (w : World) : Calls Try.prog 58 #[.iface 102 (.agg #[.int .i64 p, .int .i64 m.kind, .int .i64 m.frm, .int .i64 m.tto, .int .i64 m.line, .int .i64 m.op, .int .i64 m.num, .float .f64 m.flt, .string m.text, .slice m.na m.nn m.nc, .slice m.ka m.nk m.kc, .slice kk kn kc])] w fun e w' => e = .returned (.int .i64 24) ∧ Onw w w' := by
  have a_block := as_block_no (t := 102) (by decide)
  have a_if := as_if_no (t := 102) (by decide)
  have a_rest := as_rest_no (t := 102) (by decide)
  have a_call := as_call_no (t := 102) (by decide)
  have a_name := as_name_no (t := 102) (by decide)
  have a_index := as_index_no (t := 102) (by decide)
  have a_field := as_field_no (t := 102) (by decide)
  have a_fn := as_fn_no (t := 102) (by decide)
  have mf := meth_family_int
  go_enter Try.func58, Try.ntmps58
  go_wp2_with fail
  refine (family_expressionHeader m p kk kn kc _).mono ?_
  rintro e w1 ⟨rfl, hb1⟩
  go_wp2_with fail
  go_ret
  exact ⟨rfl, by first | exact hb1 | exact (Onw.alloc _ _).trans hb1⟩

set_option maxRecDepth 100000 in
set_option maxHeartbeats 2000000 in
theorem rolesOf_flt (m : PM) (p : Int) (kk : Option Addr) (kn kc : Nat) (w : World) : Calls Try.prog 58 #[.iface 103 (.agg #[.int .i64 p, .int .i64 m.kind, .int .i64 m.frm, .int .i64 m.tto, .int .i64 m.line, .int .i64 m.op, .int .i64 m.num, .float .f64 m.flt, .string m.text, .slice m.na m.nn m.nc, .slice m.ka m.nk m.kc, .slice kk kn kc])] w fun e w' => e = .returned (.int .i64 24) ∧ Onw w w' := by
  have a_block := as_block_no (t := 103) (by decide)
  have a_if := as_if_no (t := 103) (by decide)
  have a_rest := as_rest_no (t := 103) (by decide)
  have a_call := as_call_no (t := 103) (by decide)
  have a_name := as_name_no (t := 103) (by decide)
  have a_index := as_index_no (t := 103) (by decide)
  have a_field := as_field_no (t := 103) (by decide)
  have a_fn := as_fn_no (t := 103) (by decide)
  have mf := meth_family_flt
  go_enter Try.func58, Try.ntmps58
  go_wp2_with fail
  refine (family_expressionHeader m p kk kn kc _).mono ?_
  rintro e w1 ⟨rfl, hb1⟩
  go_wp2_with fail
  go_ret
  exact ⟨rfl, by first | exact hb1 | exact (Onw.alloc _ _).trans hb1⟩

set_option maxRecDepth 100000 in
set_option maxHeartbeats 2000000 in
theorem rolesOf_str (m : PM) (p : Int) (kk : Option Addr) (kn kc : Nat) (w : World) : Calls Try.prog 58 #[.iface 105 (.agg #[.int .i64 p, .int .i64 m.kind, .int .i64 m.frm, .int .i64 m.tto, .int .i64 m.line, .int .i64 m.op, .int .i64 m.num, .float .f64 m.flt, .string m.text, .slice m.na m.nn m.nc, .slice m.ka m.nk m.kc, .slice kk kn kc])] w fun e w' => e = .returned (.int .i64 24) ∧ Onw w w' := by
  have a_block := as_block_no (t := 105) (by decide)
  have a_if := as_if_no (t := 105) (by decide)
  have a_rest := as_rest_no (t := 105) (by decide)
  have a_call := as_call_no (t := 105) (by decide)
  have a_name := as_name_no (t := 105) (by decide)
  have a_index := as_index_no (t := 105) (by decide)
  have a_field := as_field_no (t := 105) (by decide)
  have a_fn := as_fn_no (t := 105) (by decide)
  have mf := meth_family_str
  go_enter Try.func58, Try.ntmps58
  go_wp2_with fail
  refine (family_expressionHeader m p kk kn kc _).mono ?_
  rintro e w1 ⟨rfl, hb1⟩
  go_wp2_with fail
  go_ret
  exact ⟨rfl, by first | exact hb1 | exact (Onw.alloc _ _).trans hb1⟩

set_option maxRecDepth 100000 in
set_option maxHeartbeats 2000000 in
theorem rolesOf_name (m : PM) (p : Int) (kk : Option Addr) (kn kc : Nat) (w : World) : Calls Try.prog 58 #[.iface 106 (.agg #[.int .i64 p, .int .i64 m.kind, .int .i64 m.frm, .int .i64 m.tto, .int .i64 m.line, .int .i64 m.op, .int .i64 m.num, .float .f64 m.flt, .string m.text, .slice m.na m.nn m.nc, .slice m.ka m.nk m.kc, .slice kk kn kc])] w fun e w' => e = .returned (.int .i64 152) ∧ Onw w w' := by
  have a_block := as_block_no (t := 106) (by decide)
  have a_if := as_if_no (t := 106) (by decide)
  have a_rest := as_rest_no (t := 106) (by decide)
  have a_call := as_call_no (t := 106) (by decide)
  have a_name := as_name_yes
  have a_index := as_index_no (t := 106) (by decide)
  have a_field := as_field_no (t := 106) (by decide)
  go_enter Try.func58, Try.ntmps58
  go_wp2_with fail
  go_ret
  exact ⟨rfl, by first | exact Onw.refl _ | exact Onw.alloc _ _ | exact (Onw.alloc _ _).trans (Onw.alloc _ _)⟩

set_option maxRecDepth 100000 in
set_option maxHeartbeats 2000000 in
theorem rolesOf_rest (m : PM) (p : Int) (kk : Option Addr) (kn kc : Nat) (w : World) : Calls Try.prog 58 #[.iface 101 (.agg #[.int .i64 p, .int .i64 m.kind, .int .i64 m.frm, .int .i64 m.tto, .int .i64 m.line, .int .i64 m.op, .int .i64 m.num, .float .f64 m.flt, .string m.text, .slice m.na m.nn m.nc, .slice m.ka m.nk m.kc, .slice kk kn kc])] w fun e w' => e = .returned (.int .i64 72) ∧ Onw w w' := by
  have a_block := as_block_no (t := 101) (by decide)
  have a_if := as_if_no (t := 101) (by decide)
  have a_rest := as_rest_yes
  go_enter Try.func58, Try.ntmps58
  go_wp2_with fail
  go_ret
  exact ⟨rfl, by first | exact Onw.refl _ | exact Onw.alloc _ _ | exact (Onw.alloc _ _).trans (Onw.alloc _ _)⟩

set_option maxRecDepth 100000 in
set_option maxHeartbeats 2000000 in
theorem rolesOf_either (m : PM) (p : Int) (kk : Option Addr) (kn kc : Nat) (w : World) : Calls Try.prog 58 #[.iface 107 (.agg #[.int .i64 p, .int .i64 m.kind, .int .i64 m.frm, .int .i64 m.tto, .int .i64 m.line, .int .i64 m.op, .int .i64 m.num, .float .f64 m.flt, .string m.text, .slice m.na m.nn m.nc, .slice m.ka m.nk m.kc, .slice kk kn kc])] w fun e w' => e = .returned (.int .i64 24) ∧ Onw w w' := by
  have a_block := as_block_no (t := 107) (by decide)
  have a_if := as_if_no (t := 107) (by decide)
  have a_rest := as_rest_no (t := 107) (by decide)
  have a_call := as_call_no (t := 107) (by decide)
  have a_name := as_name_no (t := 107) (by decide)
  have a_index := as_index_no (t := 107) (by decide)
  have a_field := as_field_no (t := 107) (by decide)
  have a_fn := as_fn_no (t := 107) (by decide)
  have mf := meth_family_either
  go_enter Try.func58, Try.ntmps58
  go_wp2_with fail
  refine (family_expressionHeader m p kk kn kc _).mono ?_
  rintro e w1 ⟨rfl, hb1⟩
  go_wp2_with fail
  go_ret
  exact ⟨rfl, by first | exact hb1 | exact (Onw.alloc _ _).trans hb1⟩

set_option maxRecDepth 100000 in
set_option maxHeartbeats 2000000 in
theorem rolesOf_unary (m : PM) (p : Int) (kk : Option Addr) (kn kc : Nat) (w : World) : Calls Try.prog 58 #[.iface 108 (.agg #[.int .i64 p, .int .i64 m.kind, .int .i64 m.frm, .int .i64 m.tto, .int .i64 m.line, .int .i64 m.op, .int .i64 m.num, .float .f64 m.flt, .string m.text, .slice m.na m.nn m.nc, .slice m.ka m.nk m.kc, .slice kk kn kc])] w fun e w' => e = .returned (.int .i64 24) ∧ Onw w w' := by
  have a_block := as_block_no (t := 108) (by decide)
  have a_if := as_if_no (t := 108) (by decide)
  have a_rest := as_rest_no (t := 108) (by decide)
  have a_call := as_call_no (t := 108) (by decide)
  have a_name := as_name_no (t := 108) (by decide)
  have a_index := as_index_no (t := 108) (by decide)
  have a_field := as_field_no (t := 108) (by decide)
  have a_fn := as_fn_no (t := 108) (by decide)
  have mf := meth_family_unary
  go_enter Try.func58, Try.ntmps58
  go_wp2_with fail
  refine (family_expressionHeader m p kk kn kc _).mono ?_
  rintro e w1 ⟨rfl, hb1⟩
  go_wp2_with fail
  go_ret
  exact ⟨rfl, by first | exact hb1 | exact (Onw.alloc _ _).trans hb1⟩

set_option maxRecDepth 100000 in
set_option maxHeartbeats 2000000 in
theorem rolesOf_binary (m : PM) (p : Int) (kk : Option Addr) (kn kc : Nat) (w : World) : Calls Try.prog 58 #[.iface 109 (.agg #[.int .i64 p, .int .i64 m.kind, .int .i64 m.frm, .int .i64 m.tto, .int .i64 m.line, .int .i64 m.op, .int .i64 m.num, .float .f64 m.flt, .string m.text, .slice m.na m.nn m.nc, .slice m.ka m.nk m.kc, .slice kk kn kc])] w fun e w' => e = .returned (.int .i64 24) ∧ Onw w w' := by
  have a_block := as_block_no (t := 109) (by decide)
  have a_if := as_if_no (t := 109) (by decide)
  have a_rest := as_rest_no (t := 109) (by decide)
  have a_call := as_call_no (t := 109) (by decide)
  have a_name := as_name_no (t := 109) (by decide)
  have a_index := as_index_no (t := 109) (by decide)
  have a_field := as_field_no (t := 109) (by decide)
  have a_fn := as_fn_no (t := 109) (by decide)
  have mf := meth_family_binary
  go_enter Try.func58, Try.ntmps58
  go_wp2_with fail
  refine (family_expressionHeader m p kk kn kc _).mono ?_
  rintro e w1 ⟨rfl, hb1⟩
  go_wp2_with fail
  go_ret
  exact ⟨rfl, by first | exact hb1 | exact (Onw.alloc _ _).trans hb1⟩

set_option maxRecDepth 100000 in
set_option maxHeartbeats 2000000 in
theorem rolesOf_index (m : PM) (p : Int) (kk : Option Addr) (kn kc : Nat) (w : World) : Calls Try.prog 58 #[.iface 110 (.agg #[.int .i64 p, .int .i64 m.kind, .int .i64 m.frm, .int .i64 m.tto, .int .i64 m.line, .int .i64 m.op, .int .i64 m.num, .float .f64 m.flt, .string m.text, .slice m.na m.nn m.nc, .slice m.ka m.nk m.kc, .slice kk kn kc])] w fun e w' => e = .returned (.int .i64 152) ∧ Onw w w' := by
  have a_block := as_block_no (t := 110) (by decide)
  have a_if := as_if_no (t := 110) (by decide)
  have a_rest := as_rest_no (t := 110) (by decide)
  have a_call := as_call_no (t := 110) (by decide)
  have a_name := as_name_no (t := 110) (by decide)
  have a_index := as_index_yes
  have a_field := as_field_no (t := 110) (by decide)
  go_enter Try.func58, Try.ntmps58
  go_wp2_with fail
  go_ret
  exact ⟨rfl, by first | exact Onw.refl _ | exact Onw.alloc _ _ | exact (Onw.alloc _ _).trans (Onw.alloc _ _)⟩

set_option maxRecDepth 100000 in
set_option maxHeartbeats 2000000 in
theorem rolesOf_field (m : PM) (p : Int) (kk : Option Addr) (kn kc : Nat) (w : World) : Calls Try.prog 58 #[.iface 111 (.agg #[.int .i64 p, .int .i64 m.kind, .int .i64 m.frm, .int .i64 m.tto, .int .i64 m.line, .int .i64 m.op, .int .i64 m.num, .float .f64 m.flt, .string m.text, .slice m.na m.nn m.nc, .slice m.ka m.nk m.kc, .slice kk kn kc])] w fun e w' => e = .returned (.int .i64 152) ∧ Onw w w' := by
  have a_block := as_block_no (t := 111) (by decide)
  have a_if := as_if_no (t := 111) (by decide)
  have a_rest := as_rest_no (t := 111) (by decide)
  have a_call := as_call_no (t := 111) (by decide)
  have a_name := as_name_no (t := 111) (by decide)
  have a_index := as_index_no (t := 111) (by decide)
  have a_field := as_field_yes
  go_enter Try.func58, Try.ntmps58
  go_wp2_with fail
  go_ret
  exact ⟨rfl, by first | exact Onw.refl _ | exact Onw.alloc _ _ | exact (Onw.alloc _ _).trans (Onw.alloc _ _)⟩

set_option maxRecDepth 100000 in
set_option maxHeartbeats 2000000 in
theorem rolesOf_call (m : PM) (p : Int) (kk : Option Addr) (kn kc : Nat) (w : World) : Calls Try.prog 58 #[.iface 112 (.agg #[.int .i64 p, .int .i64 m.kind, .int .i64 m.frm, .int .i64 m.tto, .int .i64 m.line, .int .i64 m.op, .int .i64 m.num, .float .f64 m.flt, .string m.text, .slice m.na m.nn m.nc, .slice m.ka m.nk m.kc, .slice kk kn kc])] w fun e w' => e = .returned (.int .i64 120) ∧ Onw w w' := by
  have a_block := as_block_no (t := 112) (by decide)
  have a_if := as_if_no (t := 112) (by decide)
  have a_rest := as_rest_no (t := 112) (by decide)
  have a_call := as_call_yes
  go_enter Try.func58, Try.ntmps58
  go_wp2_with fail
  go_ret
  exact ⟨rfl, by first | exact Onw.refl _ | exact Onw.alloc _ _ | exact (Onw.alloc _ _).trans (Onw.alloc _ _)⟩

set_option maxRecDepth 100000 in
set_option maxHeartbeats 2000000 in
theorem rolesOf_table (m : PM) (p : Int) (kk : Option Addr) (kn kc : Nat) (w : World) : Calls Try.prog 58 #[.iface 113 (.agg #[.int .i64 p, .int .i64 m.kind, .int .i64 m.frm, .int .i64 m.tto, .int .i64 m.line, .int .i64 m.op, .int .i64 m.num, .float .f64 m.flt, .string m.text, .slice m.na m.nn m.nc, .slice m.ka m.nk m.kc, .slice kk kn kc])] w fun e w' => e = .returned (.int .i64 24) ∧ Onw w w' := by
  have a_block := as_block_no (t := 113) (by decide)
  have a_if := as_if_no (t := 113) (by decide)
  have a_rest := as_rest_no (t := 113) (by decide)
  have a_call := as_call_no (t := 113) (by decide)
  have a_name := as_name_no (t := 113) (by decide)
  have a_index := as_index_no (t := 113) (by decide)
  have a_field := as_field_no (t := 113) (by decide)
  have a_fn := as_fn_no (t := 113) (by decide)
  have mf := meth_family_table
  go_enter Try.func58, Try.ntmps58
  go_wp2_with fail
  refine (family_expressionHeader m p kk kn kc _).mono ?_
  rintro e w1 ⟨rfl, hb1⟩
  go_wp2_with fail
  go_ret
  exact ⟨rfl, by first | exact hb1 | exact (Onw.alloc _ _).trans hb1⟩

set_option maxRecDepth 100000 in
set_option maxHeartbeats 2000000 in
theorem rolesOf_fn (m : PM) (p : Int) (kk : Option Addr) (kn kc : Nat) (w : World) : Calls Try.prog 58 #[.iface 114 (.agg #[.int .i64 p, .int .i64 m.kind, .int .i64 m.frm, .int .i64 m.tto, .int .i64 m.line, .int .i64 m.op, .int .i64 m.num, .float .f64 m.flt, .string m.text, .slice m.na m.nn m.nc, .slice m.ka m.nk m.kc, .slice kk kn kc])] w fun e w' => e = .returned (.int .i64 280) ∧ Onw w w' := by
  have a_block := as_block_no (t := 114) (by decide)
  have a_if := as_if_no (t := 114) (by decide)
  have a_rest := as_rest_no (t := 114) (by decide)
  have a_call := as_call_no (t := 114) (by decide)
  have a_name := as_name_no (t := 114) (by decide)
  have a_index := as_index_no (t := 114) (by decide)
  have a_field := as_field_no (t := 114) (by decide)
  have a_fn := as_fn_yes
  go_enter Try.func58, Try.ntmps58
  go_wp2_with fail
  go_ret
  exact ⟨rfl, by first | exact Onw.refl _ | exact Onw.alloc _ _ | exact (Onw.alloc _ _).trans (Onw.alloc _ _)⟩

set_option maxRecDepth 100000 in
set_option maxHeartbeats 2000000 in
theorem rolesOf_one (m : PM) (p : Int) (kk : Option Addr) (kn kc : Nat) (w : World) : Calls Try.prog 58 #[.iface 116 (.agg #[.int .i64 p, .int .i64 m.kind, .int .i64 m.frm, .int .i64 m.tto, .int .i64 m.line, .int .i64 m.op, .int .i64 m.num, .float .f64 m.flt, .string m.text, .slice m.na m.nn m.nc, .slice m.ka m.nk m.kc, .slice kk kn kc])] w fun e w' => e = .returned (.int .i64 24) ∧ Onw w w' := by
  have a_block := as_block_no (t := 116) (by decide)
  have a_if := as_if_no (t := 116) (by decide)
  have a_rest := as_rest_no (t := 116) (by decide)
  have a_call := as_call_no (t := 116) (by decide)
  have a_name := as_name_no (t := 116) (by decide)
  have a_index := as_index_no (t := 116) (by decide)
  have a_field := as_field_no (t := 116) (by decide)
  have a_fn := as_fn_no (t := 116) (by decide)
  have mf := meth_family_one
  go_enter Try.func58, Try.ntmps58
  go_wp2_with fail
  refine (family_expressionHeader m p kk kn kc _).mono ?_
  rintro e w1 ⟨rfl, hb1⟩
  go_wp2_with fail
  go_ret
  exact ⟨rfl, by first | exact hb1 | exact (Onw.alloc _ _).trans hb1⟩

set_option maxRecDepth 100000 in
set_option maxHeartbeats 2000000 in
theorem rolesOf_item (m : PM) (p : Int) (kk : Option Addr) (kn kc : Nat) (w : World) : Calls Try.prog 58 #[.iface 119 (.agg #[.int .i64 p, .int .i64 m.kind, .int .i64 m.frm, .int .i64 m.tto, .int .i64 m.line, .int .i64 m.op, .int .i64 m.num, .float .f64 m.flt, .string m.text, .slice m.na m.nn m.nc, .slice m.ka m.nk m.kc, .slice kk kn kc])] w fun e w' => e = .returned (.int .i64 512) ∧ Onw w w' := by
  have a_block := as_block_no (t := 119) (by decide)
  have a_if := as_if_no (t := 119) (by decide)
  have a_rest := as_rest_no (t := 119) (by decide)
  have a_call := as_call_no (t := 119) (by decide)
  have a_name := as_name_no (t := 119) (by decide)
  have a_index := as_index_no (t := 119) (by decide)
  have a_field := as_field_no (t := 119) (by decide)
  have a_fn := as_fn_no (t := 119) (by decide)
  have mf := meth_family_item
  go_enter Try.func58, Try.ntmps58
  go_wp2_with fail
  refine (family_entryHeader m p kk kn kc _).mono ?_
  rintro e w1 ⟨rfl, hb1⟩
  go_wp2_with fail
  go_ret
  exact ⟨rfl, by first | exact hb1 | exact (Onw.alloc _ _).trans hb1⟩

set_option maxRecDepth 100000 in
set_option maxHeartbeats 2000000 in
theorem rolesOf_pair (m : PM) (p : Int) (kk : Option Addr) (kn kc : Nat) (w : World) : Calls Try.prog 58 #[.iface 120 (.agg #[.int .i64 p, .int .i64 m.kind, .int .i64 m.frm, .int .i64 m.tto, .int .i64 m.line, .int .i64 m.op, .int .i64 m.num, .float .f64 m.flt, .string m.text, .slice m.na m.nn m.nc, .slice m.ka m.nk m.kc, .slice kk kn kc])] w fun e w' => e = .returned (.int .i64 512) ∧ Onw w w' := by
  have a_block := as_block_no (t := 120) (by decide)
  have a_if := as_if_no (t := 120) (by decide)
  have a_rest := as_rest_no (t := 120) (by decide)
  have a_call := as_call_no (t := 120) (by decide)
  have a_name := as_name_no (t := 120) (by decide)
  have a_index := as_index_no (t := 120) (by decide)
  have a_field := as_field_no (t := 120) (by decide)
  have a_fn := as_fn_no (t := 120) (by decide)
  have mf := meth_family_pair
  go_enter Try.func58, Try.ntmps58
  go_wp2_with fail
  refine (family_entryHeader m p kk kn kc _).mono ?_
  rintro e w1 ⟨rfl, hb1⟩
  go_wp2_with fail
  go_ret
  exact ⟨rfl, by first | exact hb1 | exact (Onw.alloc _ _).trans hb1⟩

set_option maxRecDepth 100000 in
set_option maxHeartbeats 2000000 in
theorem rolesOf_named (m : PM) (p : Int) (kk : Option Addr) (kn kc : Nat) (w : World) : Calls Try.prog 58 #[.iface 121 (.agg #[.int .i64 p, .int .i64 m.kind, .int .i64 m.frm, .int .i64 m.tto, .int .i64 m.line, .int .i64 m.op, .int .i64 m.num, .float .f64 m.flt, .string m.text, .slice m.na m.nn m.nc, .slice m.ka m.nk m.kc, .slice kk kn kc])] w fun e w' => e = .returned (.int .i64 512) ∧ Onw w w' := by
  have a_block := as_block_no (t := 121) (by decide)
  have a_if := as_if_no (t := 121) (by decide)
  have a_rest := as_rest_no (t := 121) (by decide)
  have a_call := as_call_no (t := 121) (by decide)
  have a_name := as_name_no (t := 121) (by decide)
  have a_index := as_index_no (t := 121) (by decide)
  have a_field := as_field_no (t := 121) (by decide)
  have a_fn := as_fn_no (t := 121) (by decide)
  have mf := meth_family_named
  go_enter Try.func58, Try.ntmps58
  go_wp2_with fail
  refine (family_entryHeader m p kk kn kc _).mono ?_
  rintro e w1 ⟨rfl, hb1⟩
  go_wp2_with fail
  go_ret
  exact ⟨rfl, by first | exact hb1 | exact (Onw.alloc _ _).trans hb1⟩

set_option maxRecDepth 100000 in
set_option maxHeartbeats 2000000 in
theorem rolesOf_strange (m : PM) (p : Int) (kk : Option Addr) (kn kc : Nat) (w : World) : Calls Try.prog 58 #[.iface 73 (.agg #[.int .i64 p, .int .i64 m.kind, .int .i64 m.frm, .int .i64 m.tto, .int .i64 m.line, .int .i64 m.op, .int .i64 m.num, .float .f64 m.flt, .string m.text, .slice m.na m.nn m.nc, .slice m.ka m.nk m.kc, .slice kk kn kc])] w fun e w' => e = .returned (.int .i64 0) ∧ Onw w w' := by
  have a_block := as_block_no (t := 73) (by decide)
  have a_if := as_if_no (t := 73) (by decide)
  have a_rest := as_rest_no (t := 73) (by decide)
  have a_call := as_call_no (t := 73) (by decide)
  have a_name := as_name_no (t := 73) (by decide)
  have a_index := as_index_no (t := 73) (by decide)
  have a_field := as_field_no (t := 73) (by decide)
  have a_fn := as_fn_no (t := 73) (by decide)
  have mf := meth_family_strange
  go_enter Try.func58, Try.ntmps58
  go_wp2_with fail
  refine (family_partHeader m p kk kn kc _).mono ?_
  rintro e w1 ⟨rfl, hb1⟩
  go_wp2_with fail
  go_ret
  exact ⟨rfl, by first | exact hb1 | exact (Onw.alloc _ _).trans hb1⟩

theorem rolesOf_any (x : Option PX) (w : World) : Calls Try.prog 58 #[pv x] w fun e w' => e = .returned (.int .i64 (roleO x)) ∧ Onw w w' := by
  cases x with
  | none => exact rolesOf_nil w
  | some x =>
    obtain ⟨m, p, k⟩ := x
    unfold pv roleO roleP ptT
    simp only
    by_cases h : slimP m.toPD
    · rw [if_pos h, if_pos h]
      rcases kinds_all m.kind with h | h | h | h | h | h | h | h | h | h | h | h | h | h | h | h | h | h | h | h | h | h | h | h | h | h | h | h | h | h | h | h | h | h | h | h | h | ⟨h, h2, _⟩
      · rw [h]; exact rolesOf_block m p k _ _ w
      · rw [h]; exact rolesOf_let m p k _ _ w
      · rw [h]; exact rolesOf_const m p k _ _ w
      · rw [h]; exact rolesOf_ownFn m p k _ _ w
      · rw [h]; exact rolesOf_set m p k _ _ w
      · rw [h]; exact rolesOf_do m p k _ _ w
      · rw [h]; exact rolesOf_do m p k _ _ w
      · rw [h]; exact rolesOf_if m p k _ _ w
      · rw [h]; exact rolesOf_while m p k _ _ w
      · rw [h]; exact rolesOf_for m p k _ _ w
      · rw [h]; exact rolesOf_each m p k _ _ w
      · rw [h]; exact rolesOf_jump m p k _ _ w
      · rw [h]; exact rolesOf_jump m p k _ _ w
      · rw [h]; exact rolesOf_return m p k _ _ w
      · rw [h]; exact rolesOf_try m p k _ _ w
      · rw [h]; exact rolesOf_throw m p k _ _ w
      · rw [h]; exact rolesOf_bare m p k _ _ w
      · rw [h]; exact rolesOf_bare m p k _ _ w
      · rw [h]; exact rolesOf_bare m p k _ _ w
      · rw [h]; exact rolesOf_int m p k _ _ w
      · rw [h]; exact rolesOf_flt m p k _ _ w
      · rw [h]; exact rolesOf_str m p k _ _ w
      · rw [h]; exact rolesOf_name m p k _ _ w
      · rw [h]; exact rolesOf_rest m p k _ _ w
      · rw [h]; exact rolesOf_either m p k _ _ w
      · rw [h]; exact rolesOf_either m p k _ _ w
      · rw [h]; exact rolesOf_unary m p k _ _ w
      · rw [h]; exact rolesOf_binary m p k _ _ w
      · rw [h]; exact rolesOf_index m p k _ _ w
      · rw [h]; exact rolesOf_field m p k _ _ w
      · rw [h]; exact rolesOf_call m p k _ _ w
      · rw [h]; exact rolesOf_table m p k _ _ w
      · rw [h]; exact rolesOf_fn m p k _ _ w
      · rw [h]; exact rolesOf_one m p k _ _ w
      · rw [h]; exact rolesOf_item m p k _ _ w
      · rw [h]; exact rolesOf_pair m p k _ _ w
      · rw [h]; exact rolesOf_named m p k _ _ w
      · rw [h, h2]; exact rolesOf_strange m p k _ _ w
    · rw [if_neg h, if_neg h]; exact rolesOf_strange m p k _ _ w
end Go.Proofs.Ytnokgdgikdgaeaa
