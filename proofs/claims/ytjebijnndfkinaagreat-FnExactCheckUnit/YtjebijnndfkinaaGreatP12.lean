import Derived.Test.YtjebijnndfkinaaGreatP09
namespace Go.Proofs.YtjebijnndfkinaaGreat
open Go.RowKit

/-- A form that is none. -/
def zForm : Value := .agg #[.int .i64 0, .int .i64 0, .int .i64 0, .int .i64 0, .int .i64 0, .float .f64 0, .string ByteArray.empty, .slice none 0 0, .slice none 0 0, .slice none 0 0]
theorem as_block_if (t : TypeId) (v : Value) (w : World) : Sem.run Tryz.prog (Instr.typeAssert (.iface t v) 79 125 true) w = Sem.run Tryz.prog (if t = 125 then pure (.tuple #[v, .bool true]) else (do let z ← zeroValue 125; pure (.tuple #[z, .bool false]))) w := by kernel_rfl
theorem as_block_z (w : World) : Sem.run Tryz.prog (do let z ← zeroValue 125; pure (Value.tuple #[z, .bool false])) w = .ok (Value.tuple #[.agg #[.int .i64 0, .int .i64 0, .int .i64 0, .int .i64 0, .int .i64 0, .float .f64 0, .string ByteArray.empty, .slice none 0 0, .slice none 0 0, .slice none 0 0], .bool false]) w := by kernel_rfl
theorem as_block_yes {d : ND} (h : d.nk ≤ 200) (hk : d.kind = 1) (v : Value) (w : World) : Sem.run Tryz.prog (Instr.typeAssert (.iface (fmT d) v) 79 125 true) w = .ok (.tuple #[v, .bool true]) w := by
  have e : fmT d = 125 := by
    unfold fmT; rw [if_pos h]
    rcases hk with hk <;> (rw [hk]; rfl)
  rw [as_block_if, e, if_pos rfl]
  rfl
theorem as_block_no {d : ND} (h : d.nk ≤ 200) (hk : d.kind ≠ 1) (v : Value) (w : World) : Sem.run Tryz.prog (Instr.typeAssert (.iface (fmT d) v) 79 125 true) w = .ok (.tuple #[.agg #[.int .i64 0, .int .i64 0, .int .i64 0, .int .i64 0, .int .i64 0, .float .f64 0, .string ByteArray.empty, .slice none 0 0, .slice none 0 0, .slice none 0 0], .bool false]) w := by
  have e : fmT d ≠ 125 := by
    unfold fmT; rw [if_pos h]
    rcases kinds_all d.kind with h | h | h | h | h | h | h | h | h | h | h | h | h | h | h | h | h | h | h | h | h | h | h | h | h | h | h | h | h | h | h | h | h | ⟨h, _⟩
    all_goals first | (exfalso; omega) | (rw [h]; decide)
  rw [as_block_if, if_neg e]; exact as_block_z w
theorem as_while_if (t : TypeId) (v : Value) (w : World) : Sem.run Tryz.prog (Instr.typeAssert (.iface t v) 79 127 true) w = Sem.run Tryz.prog (if t = 127 then pure (.tuple #[v, .bool true]) else (do let z ← zeroValue 127; pure (.tuple #[z, .bool false]))) w := by kernel_rfl
theorem as_while_z (w : World) : Sem.run Tryz.prog (do let z ← zeroValue 127; pure (Value.tuple #[z, .bool false])) w = .ok (Value.tuple #[.agg #[.int .i64 0, .int .i64 0, .int .i64 0, .int .i64 0, .int .i64 0, .float .f64 0, .string ByteArray.empty, .slice none 0 0, .slice none 0 0, .slice none 0 0], .bool false]) w := by kernel_rfl
theorem as_while_yes {d : ND} (h : d.nk ≤ 200) (hk : d.kind = 6) (v : Value) (w : World) : Sem.run Tryz.prog (Instr.typeAssert (.iface (fmT d) v) 79 127 true) w = .ok (.tuple #[v, .bool true]) w := by
  have e : fmT d = 127 := by
    unfold fmT; rw [if_pos h]
    rcases hk with hk <;> (rw [hk]; rfl)
  rw [as_while_if, e, if_pos rfl]
  rfl
theorem as_while_no {d : ND} (h : d.nk ≤ 200) (hk : d.kind ≠ 6) (v : Value) (w : World) : Sem.run Tryz.prog (Instr.typeAssert (.iface (fmT d) v) 79 127 true) w = .ok (.tuple #[.agg #[.int .i64 0, .int .i64 0, .int .i64 0, .int .i64 0, .int .i64 0, .float .f64 0, .string ByteArray.empty, .slice none 0 0, .slice none 0 0, .slice none 0 0], .bool false]) w := by
  have e : fmT d ≠ 127 := by
    unfold fmT; rw [if_pos h]
    rcases kinds_all d.kind with h | h | h | h | h | h | h | h | h | h | h | h | h | h | h | h | h | h | h | h | h | h | h | h | h | h | h | h | h | h | h | h | h | ⟨h, _⟩
    all_goals first | (exfalso; omega) | (rw [h]; decide)
  rw [as_while_if, if_neg e]; exact as_while_z w
theorem as_for_if (t : TypeId) (v : Value) (w : World) : Sem.run Tryz.prog (Instr.typeAssert (.iface t v) 79 98 true) w = Sem.run Tryz.prog (if t = 98 then pure (.tuple #[v, .bool true]) else (do let z ← zeroValue 98; pure (.tuple #[z, .bool false]))) w := by kernel_rfl
theorem as_for_z (w : World) : Sem.run Tryz.prog (do let z ← zeroValue 98; pure (Value.tuple #[z, .bool false])) w = .ok (Value.tuple #[.agg #[.int .i64 0, .int .i64 0, .int .i64 0, .int .i64 0, .int .i64 0, .float .f64 0, .string ByteArray.empty, .slice none 0 0, .slice none 0 0, .slice none 0 0], .bool false]) w := by kernel_rfl
theorem as_for_yes {d : ND} (h : d.nk ≤ 200) (hk : d.kind = 7) (v : Value) (w : World) : Sem.run Tryz.prog (Instr.typeAssert (.iface (fmT d) v) 79 98 true) w = .ok (.tuple #[v, .bool true]) w := by
  have e : fmT d = 98 := by
    unfold fmT; rw [if_pos h]
    rcases hk with hk <;> (rw [hk]; rfl)
  rw [as_for_if, e, if_pos rfl]
  rfl
theorem as_for_no {d : ND} (h : d.nk ≤ 200) (hk : d.kind ≠ 7) (v : Value) (w : World) : Sem.run Tryz.prog (Instr.typeAssert (.iface (fmT d) v) 79 98 true) w = .ok (.tuple #[.agg #[.int .i64 0, .int .i64 0, .int .i64 0, .int .i64 0, .int .i64 0, .float .f64 0, .string ByteArray.empty, .slice none 0 0, .slice none 0 0, .slice none 0 0], .bool false]) w := by
  have e : fmT d ≠ 98 := by
    unfold fmT; rw [if_pos h]
    rcases kinds_all d.kind with h | h | h | h | h | h | h | h | h | h | h | h | h | h | h | h | h | h | h | h | h | h | h | h | h | h | h | h | h | h | h | h | h | ⟨h, _⟩
    all_goals first | (exfalso; omega) | (rw [h]; decide)
  rw [as_for_if, if_neg e]; exact as_for_z w
theorem as_each_if (t : TypeId) (v : Value) (w : World) : Sem.run Tryz.prog (Instr.typeAssert (.iface t v) 79 99 true) w = Sem.run Tryz.prog (if t = 99 then pure (.tuple #[v, .bool true]) else (do let z ← zeroValue 99; pure (.tuple #[z, .bool false]))) w := by kernel_rfl
theorem as_each_z (w : World) : Sem.run Tryz.prog (do let z ← zeroValue 99; pure (Value.tuple #[z, .bool false])) w = .ok (Value.tuple #[.agg #[.int .i64 0, .int .i64 0, .int .i64 0, .int .i64 0, .int .i64 0, .float .f64 0, .string ByteArray.empty, .slice none 0 0, .slice none 0 0, .slice none 0 0], .bool false]) w := by kernel_rfl
theorem as_each_yes {d : ND} (h : d.nk ≤ 200) (hk : d.kind = 8) (v : Value) (w : World) : Sem.run Tryz.prog (Instr.typeAssert (.iface (fmT d) v) 79 99 true) w = .ok (.tuple #[v, .bool true]) w := by
  have e : fmT d = 99 := by
    unfold fmT; rw [if_pos h]
    rcases hk with hk <;> (rw [hk]; rfl)
  rw [as_each_if, e, if_pos rfl]
  rfl
theorem as_each_no {d : ND} (h : d.nk ≤ 200) (hk : d.kind ≠ 8) (v : Value) (w : World) : Sem.run Tryz.prog (Instr.typeAssert (.iface (fmT d) v) 79 99 true) w = .ok (.tuple #[.agg #[.int .i64 0, .int .i64 0, .int .i64 0, .int .i64 0, .int .i64 0, .float .f64 0, .string ByteArray.empty, .slice none 0 0, .slice none 0 0, .slice none 0 0], .bool false]) w := by
  have e : fmT d ≠ 99 := by
    unfold fmT; rw [if_pos h]
    rcases kinds_all d.kind with h | h | h | h | h | h | h | h | h | h | h | h | h | h | h | h | h | h | h | h | h | h | h | h | h | h | h | h | h | h | h | h | h | ⟨h, _⟩
    all_goals first | (exfalso; omega) | (rw [h]; decide)
  rw [as_each_if, if_neg e]; exact as_each_z w
theorem as_try_if (t : TypeId) (v : Value) (w : World) : Sem.run Tryz.prog (Instr.typeAssert (.iface t v) 79 100 true) w = Sem.run Tryz.prog (if t = 100 then pure (.tuple #[v, .bool true]) else (do let z ← zeroValue 100; pure (.tuple #[z, .bool false]))) w := by kernel_rfl
theorem as_try_z (w : World) : Sem.run Tryz.prog (do let z ← zeroValue 100; pure (Value.tuple #[z, .bool false])) w = .ok (Value.tuple #[.agg #[.int .i64 0, .int .i64 0, .int .i64 0, .int .i64 0, .int .i64 0, .float .f64 0, .string ByteArray.empty, .slice none 0 0, .slice none 0 0, .slice none 0 0], .bool false]) w := by kernel_rfl
theorem as_try_yes {d : ND} (h : d.nk ≤ 200) (hk : d.kind = 12) (v : Value) (w : World) : Sem.run Tryz.prog (Instr.typeAssert (.iface (fmT d) v) 79 100 true) w = .ok (.tuple #[v, .bool true]) w := by
  have e : fmT d = 100 := by
    unfold fmT; rw [if_pos h]
    rcases hk with hk <;> (rw [hk]; rfl)
  rw [as_try_if, e, if_pos rfl]
  rfl
theorem as_try_no {d : ND} (h : d.nk ≤ 200) (hk : d.kind ≠ 12) (v : Value) (w : World) : Sem.run Tryz.prog (Instr.typeAssert (.iface (fmT d) v) 79 100 true) w = .ok (.tuple #[.agg #[.int .i64 0, .int .i64 0, .int .i64 0, .int .i64 0, .int .i64 0, .float .f64 0, .string ByteArray.empty, .slice none 0 0, .slice none 0 0, .slice none 0 0], .bool false]) w := by
  have e : fmT d ≠ 100 := by
    unfold fmT; rw [if_pos h]
    rcases kinds_all d.kind with h | h | h | h | h | h | h | h | h | h | h | h | h | h | h | h | h | h | h | h | h | h | h | h | h | h | h | h | h | h | h | h | h | ⟨h, _⟩
    all_goals first | (exfalso; omega) | (rw [h]; decide)
  rw [as_try_if, if_neg e]; exact as_try_z w
theorem as_var_if (t : TypeId) (v : Value) (w : World) : Sem.run Tryz.prog (Instr.typeAssert (.iface t v) 79 102 true) w = Sem.run Tryz.prog (if t = 102 then pure (.tuple #[v, .bool true]) else (do let z ← zeroValue 102; pure (.tuple #[z, .bool false]))) w := by kernel_rfl
theorem as_var_z (w : World) : Sem.run Tryz.prog (do let z ← zeroValue 102; pure (Value.tuple #[z, .bool false])) w = .ok (Value.tuple #[.agg #[.int .i64 0, .int .i64 0, .int .i64 0, .int .i64 0, .int .i64 0, .float .f64 0, .string ByteArray.empty, .slice none 0 0, .slice none 0 0, .slice none 0 0], .bool false]) w := by kernel_rfl
theorem as_var_yes {d : ND} (h : d.nk ≤ 200) (hk : d.kind = 26) (v : Value) (w : World) : Sem.run Tryz.prog (Instr.typeAssert (.iface (fmT d) v) 79 102 true) w = .ok (.tuple #[v, .bool true]) w := by
  have e : fmT d = 102 := by
    unfold fmT; rw [if_pos h]
    rcases hk with hk <;> (rw [hk]; rfl)
  rw [as_var_if, e, if_pos rfl]
  rfl
theorem as_var_no {d : ND} (h : d.nk ≤ 200) (hk : d.kind ≠ 26) (v : Value) (w : World) : Sem.run Tryz.prog (Instr.typeAssert (.iface (fmT d) v) 79 102 true) w = .ok (.tuple #[.agg #[.int .i64 0, .int .i64 0, .int .i64 0, .int .i64 0, .int .i64 0, .float .f64 0, .string ByteArray.empty, .slice none 0 0, .slice none 0 0, .slice none 0 0], .bool false]) w := by
  have e : fmT d ≠ 102 := by
    unfold fmT; rw [if_pos h]
    rcases kinds_all d.kind with h | h | h | h | h | h | h | h | h | h | h | h | h | h | h | h | h | h | h | h | h | h | h | h | h | h | h | h | h | h | h | h | h | ⟨h, _⟩
    all_goals first | (exfalso; omega) | (rw [h]; decide)
  rw [as_var_if, if_neg e]; exact as_var_z w
theorem as_fn_if (t : TypeId) (v : Value) (w : World) : Sem.run Tryz.prog (Instr.typeAssert (.iface t v) 79 92 true) w = Sem.run Tryz.prog (if t = 92 then pure (.tuple #[v, .bool true]) else (do let z ← zeroValue 92; pure (.tuple #[z, .bool false]))) w := by kernel_rfl
theorem as_fn_z (w : World) : Sem.run Tryz.prog (do let z ← zeroValue 92; pure (Value.tuple #[z, .bool false])) w = .ok (Value.tuple #[.agg #[.int .i64 0, .int .i64 0, .int .i64 0, .int .i64 0, .int .i64 0, .float .f64 0, .string ByteArray.empty, .slice none 0 0, .slice none 0 0, .slice none 0 0], .bool false]) w := by kernel_rfl
theorem as_fn_yes {d : ND} (h : d.nk ≤ 200) (hk : d.kind = 36) (v : Value) (w : World) : Sem.run Tryz.prog (Instr.typeAssert (.iface (fmT d) v) 79 92 true) w = .ok (.tuple #[v, .bool true]) w := by
  have e : fmT d = 92 := by
    unfold fmT; rw [if_pos h]
    rcases hk with hk <;> (rw [hk]; rfl)
  rw [as_fn_if, e, if_pos rfl]
  rfl
theorem as_fn_no {d : ND} (h : d.nk ≤ 200) (hk : d.kind ≠ 36) (v : Value) (w : World) : Sem.run Tryz.prog (Instr.typeAssert (.iface (fmT d) v) 79 92 true) w = .ok (.tuple #[.agg #[.int .i64 0, .int .i64 0, .int .i64 0, .int .i64 0, .int .i64 0, .float .f64 0, .string ByteArray.empty, .slice none 0 0, .slice none 0 0, .slice none 0 0], .bool false]) w := by
  have e : fmT d ≠ 92 := by
    unfold fmT; rw [if_pos h]
    rcases kinds_all d.kind with h | h | h | h | h | h | h | h | h | h | h | h | h | h | h | h | h | h | h | h | h | h | h | h | h | h | h | h | h | h | h | h | h | ⟨h, _⟩
    all_goals first | (exfalso; omega) | (rw [h]; decide)
  rw [as_fn_if, if_neg e]; exact as_fn_z w
theorem as_let_if (t : TypeId) (v : Value) (w : World) : Sem.run Tryz.prog (Instr.typeAssert (.iface t v) 79 97 true) w = Sem.run Tryz.prog (if t = 97 then pure (.tuple #[v, .bool true]) else (do let z ← zeroValue 97; pure (.tuple #[z, .bool false]))) w := by kernel_rfl
theorem as_let_z (w : World) : Sem.run Tryz.prog (do let z ← zeroValue 97; pure (Value.tuple #[z, .bool false])) w = .ok (Value.tuple #[.agg #[.int .i64 0, .int .i64 0, .int .i64 0, .int .i64 0, .int .i64 0, .float .f64 0, .string ByteArray.empty, .slice none 0 0, .slice none 0 0, .slice none 0 0], .bool false]) w := by kernel_rfl
theorem as_let_yes {d : ND} (h : d.nk ≤ 200) (hk : d.kind = 2) (v : Value) (w : World) : Sem.run Tryz.prog (Instr.typeAssert (.iface (fmT d) v) 79 97 true) w = .ok (.tuple #[v, .bool true]) w := by
  have e : fmT d = 97 := by
    unfold fmT; rw [if_pos h]
    rcases hk with hk <;> (rw [hk]; rfl)
  rw [as_let_if, e, if_pos rfl]
  rfl
theorem as_let_no {d : ND} (h : d.nk ≤ 200) (hk : d.kind ≠ 2) (v : Value) (w : World) : Sem.run Tryz.prog (Instr.typeAssert (.iface (fmT d) v) 79 97 true) w = .ok (.tuple #[.agg #[.int .i64 0, .int .i64 0, .int .i64 0, .int .i64 0, .int .i64 0, .float .f64 0, .string ByteArray.empty, .slice none 0 0, .slice none 0 0, .slice none 0 0], .bool false]) w := by
  have e : fmT d ≠ 97 := by
    unfold fmT; rw [if_pos h]
    rcases kinds_all d.kind with h | h | h | h | h | h | h | h | h | h | h | h | h | h | h | h | h | h | h | h | h | h | h | h | h | h | h | h | h | h | h | h | h | ⟨h, _⟩
    all_goals first | (exfalso; omega) | (rw [h]; decide)
  rw [as_let_if, if_neg e]; exact as_let_z w
theorem as_jump_if (t : TypeId) (v : Value) (w : World) : Sem.run Tryz.prog (Instr.typeAssert (.iface t v) 79 106 true) w = Sem.run Tryz.prog (if t = 106 then pure (.tuple #[v, .bool true]) else (do let z ← zeroValue 106; pure (.tuple #[z, .bool false]))) w := by kernel_rfl
theorem as_jump_z (w : World) : Sem.run Tryz.prog (do let z ← zeroValue 106; pure (Value.tuple #[z, .bool false])) w = .ok (Value.tuple #[.agg #[.int .i64 0, .int .i64 0, .int .i64 0, .int .i64 0, .int .i64 0, .float .f64 0, .string ByteArray.empty, .slice none 0 0, .slice none 0 0, .slice none 0 0], .bool false]) w := by kernel_rfl
theorem as_jump_yes {d : ND} (h : d.nk ≤ 200) (hk : d.kind = 9 ∨ d.kind = 10) (v : Value) (w : World) : Sem.run Tryz.prog (Instr.typeAssert (.iface (fmT d) v) 79 106 true) w = .ok (.tuple #[v, .bool true]) w := by
  have e : fmT d = 106 := by
    unfold fmT; rw [if_pos h]
    rcases hk with hk | hk <;> (rw [hk]; rfl)
  rw [as_jump_if, e, if_pos rfl]
  rfl
theorem as_jump_no {d : ND} (h : d.nk ≤ 200) (hk : d.kind ≠ 9 ∧ d.kind ≠ 10) (v : Value) (w : World) : Sem.run Tryz.prog (Instr.typeAssert (.iface (fmT d) v) 79 106 true) w = .ok (.tuple #[.agg #[.int .i64 0, .int .i64 0, .int .i64 0, .int .i64 0, .int .i64 0, .float .f64 0, .string ByteArray.empty, .slice none 0 0, .slice none 0 0, .slice none 0 0], .bool false]) w := by
  have e : fmT d ≠ 106 := by
    unfold fmT; rw [if_pos h]
    rcases kinds_all d.kind with h | h | h | h | h | h | h | h | h | h | h | h | h | h | h | h | h | h | h | h | h | h | h | h | h | h | h | h | h | h | h | h | h | ⟨h, _⟩
    all_goals first | (exfalso; omega) | (rw [h]; decide)
  rw [as_jump_if, if_neg e]; exact as_jump_z w
theorem as_rest_if (t : TypeId) (v : Value) (w : World) : Sem.run Tryz.prog (Instr.typeAssert (.iface t v) 79 108 true) w = Sem.run Tryz.prog (if t = 108 then pure (.tuple #[v, .bool true]) else (do let z ← zeroValue 108; pure (.tuple #[z, .bool false]))) w := by kernel_rfl
theorem as_rest_z (w : World) : Sem.run Tryz.prog (do let z ← zeroValue 108; pure (Value.tuple #[z, .bool false])) w = .ok (Value.tuple #[.agg #[.int .i64 0, .int .i64 0, .int .i64 0, .int .i64 0, .int .i64 0, .float .f64 0, .string ByteArray.empty, .slice none 0 0, .slice none 0 0, .slice none 0 0], .bool false]) w := by kernel_rfl
theorem as_rest_yes {d : ND} (h : d.nk ≤ 200) (hk : d.kind = 37) (v : Value) (w : World) : Sem.run Tryz.prog (Instr.typeAssert (.iface (fmT d) v) 79 108 true) w = .ok (.tuple #[v, .bool true]) w := by
  have e : fmT d = 108 := by
    unfold fmT; rw [if_pos h]
    rcases hk with hk <;> (rw [hk]; rfl)
  rw [as_rest_if, e, if_pos rfl]
  rfl
theorem as_rest_no {d : ND} (h : d.nk ≤ 200) (hk : d.kind ≠ 37) (v : Value) (w : World) : Sem.run Tryz.prog (Instr.typeAssert (.iface (fmT d) v) 79 108 true) w = .ok (.tuple #[.agg #[.int .i64 0, .int .i64 0, .int .i64 0, .int .i64 0, .int .i64 0, .float .f64 0, .string ByteArray.empty, .slice none 0 0, .slice none 0 0, .slice none 0 0], .bool false]) w := by
  have e : fmT d ≠ 108 := by
    unfold fmT; rw [if_pos h]
    rcases kinds_all d.kind with h | h | h | h | h | h | h | h | h | h | h | h | h | h | h | h | h | h | h | h | h | h | h | h | h | h | h | h | h | h | h | h | h | ⟨h, _⟩
    all_goals first | (exfalso; omega) | (rw [h]; decide)
  rw [as_rest_if, if_neg e]; exact as_rest_z w
theorem as_up_if (t : TypeId) (v : Value) (w : World) : Sem.run Tryz.prog (Instr.typeAssert (.iface t v) 79 105 true) w = Sem.run Tryz.prog (if t = 105 then pure (.tuple #[v, .bool true]) else (do let z ← zeroValue 105; pure (.tuple #[z, .bool false]))) w := by kernel_rfl
theorem as_up_z (w : World) : Sem.run Tryz.prog (do let z ← zeroValue 105; pure (Value.tuple #[z, .bool false])) w = .ok (Value.tuple #[.agg #[.int .i64 0, .int .i64 0, .int .i64 0, .int .i64 0, .int .i64 0, .float .f64 0, .string ByteArray.empty, .slice none 0 0, .slice none 0 0, .slice none 0 0], .bool false]) w := by kernel_rfl
theorem as_up_yes {d : ND} (h : d.nk ≤ 200) (hk : d.kind = 27) (v : Value) (w : World) : Sem.run Tryz.prog (Instr.typeAssert (.iface (fmT d) v) 79 105 true) w = .ok (.tuple #[v, .bool true]) w := by
  have e : fmT d = 105 := by
    unfold fmT; rw [if_pos h]
    rcases hk with hk <;> (rw [hk]; rfl)
  rw [as_up_if, e, if_pos rfl]
  rfl
theorem as_up_no {d : ND} (h : d.nk ≤ 200) (hk : d.kind ≠ 27) (v : Value) (w : World) : Sem.run Tryz.prog (Instr.typeAssert (.iface (fmT d) v) 79 105 true) w = .ok (.tuple #[.agg #[.int .i64 0, .int .i64 0, .int .i64 0, .int .i64 0, .int .i64 0, .float .f64 0, .string ByteArray.empty, .slice none 0 0, .slice none 0 0, .slice none 0 0], .bool false]) w := by
  have e : fmT d ≠ 105 := by
    unfold fmT; rw [if_pos h]
    rcases kinds_all d.kind with h | h | h | h | h | h | h | h | h | h | h | h | h | h | h | h | h | h | h | h | h | h | h | h | h | h | h | h | h | h | h | h | h | ⟨h, _⟩
    all_goals first | (exfalso; omega) | (rw [h]; decide)
  rw [as_up_if, if_neg e]; exact as_up_z w
theorem field_node (v0 v1 v2 v3 v4 v5 v6 v7 v8 v9 : Value) (w : World) : Sem.run Tryz.prog (Instr.field 84 (.agg #[v0, v1, v2, v3, v4, v5, v6, v7, v8, v9]) 1) w = .ok (.agg #[v1, v2, v3, v4, v5, v6, v7, v8]) w := by kernel_rfl
theorem field_refs (v1 v2 v3 v4 v5 v6 v8 : Value) (a : Option Addr) (n c : Nat) (w : World) : Sem.run Tryz.prog (Instr.field 71 (.agg #[v1, v2, v3, v4, v5, v6, .slice a n c, v8]) 6) w = .ok (.slice a n c) w := by kernel_rfl
theorem field_kids (v1 v2 v3 v4 v5 v6 v7 : Value) (a : Option Addr) (n c : Nat) (w : World) : Sem.run Tryz.prog (Instr.field 71 (.agg #[v1, v2, v3, v4, v5, v6, v7, .slice a n c]) 7) w = .ok (.slice a n c) w := by kernel_rfl
end Go.Proofs.YtjebijnndfkinaaGreat
