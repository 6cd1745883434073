import Derived.Test.YtfcaehefahakdabP01
namespace Go.Proofs.Ytfcaehefahakdab
open Go.RowKit

theorem meth_top_block (v0 v1 v2 v3 v4 v5 v6 v7 v8 v9 v10 v11 : Value) (w : World) : Sem.run Try.prog (method 339 120 (.agg #[v0, v1, v2, v3, v4, v5, v6, v7, v8, v9, v10, v11]) "loop.example/reed/impl.top") w = .ok (152, .agg #[v0, v1, v2, v3, v4, v5, v6, v7, v8, v9, v10, v11]) w := by kernel_rfl
theorem meth_family_block (v0 v1 v2 v3 v4 v5 v6 v7 v8 v9 v10 v11 : Value) (w : World) : Sem.run Try.prog (method 339 120 (.agg #[v0, v1, v2, v3, v4, v5, v6, v7, v8, v9, v10, v11]) "loop.example/reed/impl.family") w = .ok (153, .agg #[v0, v1, v2, v3, v4, v5, v6, v7, v8, v9, v10, v11]) w := by kernel_rfl
theorem meth_leastLine_block (v0 v1 v2 v3 v4 v5 v6 v7 v8 v9 v10 v11 : Value) (w : World) : Sem.run Try.prog (method 339 120 (.agg #[v0, v1, v2, v3, v4, v5, v6, v7, v8, v9, v10, v11]) "loop.example/reed/impl.leastLine") w = .ok (154, .agg #[v0, v1, v2, v3, v4, v5, v6, v7, v8, v9, v10, v11]) w := by kernel_rfl
theorem meth_top_let (v0 v1 v2 v3 v4 v5 v6 v7 v8 v9 v10 v11 : Value) (w : World) : Sem.run Try.prog (method 339 123 (.agg #[v0, v1, v2, v3, v4, v5, v6, v7, v8, v9, v10, v11]) "loop.example/reed/impl.top") w = .ok (152, .agg #[v0, v1, v2, v3, v4, v5, v6, v7, v8, v9, v10, v11]) w := by kernel_rfl
theorem meth_family_let (v0 v1 v2 v3 v4 v5 v6 v7 v8 v9 v10 v11 : Value) (w : World) : Sem.run Try.prog (method 339 123 (.agg #[v0, v1, v2, v3, v4, v5, v6, v7, v8, v9, v10, v11]) "loop.example/reed/impl.family") w = .ok (153, .agg #[v0, v1, v2, v3, v4, v5, v6, v7, v8, v9, v10, v11]) w := by kernel_rfl
theorem meth_leastLine_let (v0 v1 v2 v3 v4 v5 v6 v7 v8 v9 v10 v11 : Value) (w : World) : Sem.run Try.prog (method 339 123 (.agg #[v0, v1, v2, v3, v4, v5, v6, v7, v8, v9, v10, v11]) "loop.example/reed/impl.leastLine") w = .ok (154, .agg #[v0, v1, v2, v3, v4, v5, v6, v7, v8, v9, v10, v11]) w := by kernel_rfl
theorem meth_top_const (v0 v1 v2 v3 v4 v5 v6 v7 v8 v9 v10 v11 : Value) (w : World) : Sem.run Try.prog (method 339 124 (.agg #[v0, v1, v2, v3, v4, v5, v6, v7, v8, v9, v10, v11]) "loop.example/reed/impl.top") w = .ok (152, .agg #[v0, v1, v2, v3, v4, v5, v6, v7, v8, v9, v10, v11]) w := by kernel_rfl
theorem meth_family_const (v0 v1 v2 v3 v4 v5 v6 v7 v8 v9 v10 v11 : Value) (w : World) : Sem.run Try.prog (method 339 124 (.agg #[v0, v1, v2, v3, v4, v5, v6, v7, v8, v9, v10, v11]) "loop.example/reed/impl.family") w = .ok (153, .agg #[v0, v1, v2, v3, v4, v5, v6, v7, v8, v9, v10, v11]) w := by kernel_rfl
theorem meth_leastLine_const (v0 v1 v2 v3 v4 v5 v6 v7 v8 v9 v10 v11 : Value) (w : World) : Sem.run Try.prog (method 339 124 (.agg #[v0, v1, v2, v3, v4, v5, v6, v7, v8, v9, v10, v11]) "loop.example/reed/impl.leastLine") w = .ok (154, .agg #[v0, v1, v2, v3, v4, v5, v6, v7, v8, v9, v10, v11]) w := by kernel_rfl
theorem meth_top_ownFn (v0 v1 v2 v3 v4 v5 v6 v7 v8 v9 v10 v11 : Value) (w : World) : Sem.run Try.prog (method 339 126 (.agg #[v0, v1, v2, v3, v4, v5, v6, v7, v8, v9, v10, v11]) "loop.example/reed/impl.top") w = .ok (152, .agg #[v0, v1, v2, v3, v4, v5, v6, v7, v8, v9, v10, v11]) w := by kernel_rfl
theorem meth_family_ownFn (v0 v1 v2 v3 v4 v5 v6 v7 v8 v9 v10 v11 : Value) (w : World) : Sem.run Try.prog (method 339 126 (.agg #[v0, v1, v2, v3, v4, v5, v6, v7, v8, v9, v10, v11]) "loop.example/reed/impl.family") w = .ok (153, .agg #[v0, v1, v2, v3, v4, v5, v6, v7, v8, v9, v10, v11]) w := by kernel_rfl
theorem meth_leastLine_ownFn (v0 v1 v2 v3 v4 v5 v6 v7 v8 v9 v10 v11 : Value) (w : World) : Sem.run Try.prog (method 339 126 (.agg #[v0, v1, v2, v3, v4, v5, v6, v7, v8, v9, v10, v11]) "loop.example/reed/impl.leastLine") w = .ok (154, .agg #[v0, v1, v2, v3, v4, v5, v6, v7, v8, v9, v10, v11]) w := by kernel_rfl
theorem meth_top_set (v0 v1 v2 v3 v4 v5 v6 v7 v8 v9 v10 v11 : Value) (w : World) : Sem.run Try.prog (method 339 127 (.agg #[v0, v1, v2, v3, v4, v5, v6, v7, v8, v9, v10, v11]) "loop.example/reed/impl.top") w = .ok (152, .agg #[v0, v1, v2, v3, v4, v5, v6, v7, v8, v9, v10, v11]) w := by kernel_rfl
theorem meth_family_set (v0 v1 v2 v3 v4 v5 v6 v7 v8 v9 v10 v11 : Value) (w : World) : Sem.run Try.prog (method 339 127 (.agg #[v0, v1, v2, v3, v4, v5, v6, v7, v8, v9, v10, v11]) "loop.example/reed/impl.family") w = .ok (153, .agg #[v0, v1, v2, v3, v4, v5, v6, v7, v8, v9, v10, v11]) w := by kernel_rfl
theorem meth_leastLine_set (v0 v1 v2 v3 v4 v5 v6 v7 v8 v9 v10 v11 : Value) (w : World) : Sem.run Try.prog (method 339 127 (.agg #[v0, v1, v2, v3, v4, v5, v6, v7, v8, v9, v10, v11]) "loop.example/reed/impl.leastLine") w = .ok (154, .agg #[v0, v1, v2, v3, v4, v5, v6, v7, v8, v9, v10, v11]) w := by kernel_rfl
theorem meth_top_do (v0 v1 v2 v3 v4 v5 v6 v7 v8 v9 v10 v11 : Value) (w : World) : Sem.run Try.prog (method 339 129 (.agg #[v0, v1, v2, v3, v4, v5, v6, v7, v8, v9, v10, v11]) "loop.example/reed/impl.top") w = .ok (152, .agg #[v0, v1, v2, v3, v4, v5, v6, v7, v8, v9, v10, v11]) w := by kernel_rfl
theorem meth_family_do (v0 v1 v2 v3 v4 v5 v6 v7 v8 v9 v10 v11 : Value) (w : World) : Sem.run Try.prog (method 339 129 (.agg #[v0, v1, v2, v3, v4, v5, v6, v7, v8, v9, v10, v11]) "loop.example/reed/impl.family") w = .ok (153, .agg #[v0, v1, v2, v3, v4, v5, v6, v7, v8, v9, v10, v11]) w := by kernel_rfl
theorem meth_leastLine_do (v0 v1 v2 v3 v4 v5 v6 v7 v8 v9 v10 v11 : Value) (w : World) : Sem.run Try.prog (method 339 129 (.agg #[v0, v1, v2, v3, v4, v5, v6, v7, v8, v9, v10, v11]) "loop.example/reed/impl.leastLine") w = .ok (154, .agg #[v0, v1, v2, v3, v4, v5, v6, v7, v8, v9, v10, v11]) w := by kernel_rfl
theorem meth_top_if (v0 v1 v2 v3 v4 v5 v6 v7 v8 v9 v10 v11 : Value) (w : World) : Sem.run Try.prog (method 339 130 (.agg #[v0, v1, v2, v3, v4, v5, v6, v7, v8, v9, v10, v11]) "loop.example/reed/impl.top") w = .ok (152, .agg #[v0, v1, v2, v3, v4, v5, v6, v7, v8, v9, v10, v11]) w := by kernel_rfl
theorem meth_family_if (v0 v1 v2 v3 v4 v5 v6 v7 v8 v9 v10 v11 : Value) (w : World) : Sem.run Try.prog (method 339 130 (.agg #[v0, v1, v2, v3, v4, v5, v6, v7, v8, v9, v10, v11]) "loop.example/reed/impl.family") w = .ok (153, .agg #[v0, v1, v2, v3, v4, v5, v6, v7, v8, v9, v10, v11]) w := by kernel_rfl
theorem meth_leastLine_if (v0 v1 v2 v3 v4 v5 v6 v7 v8 v9 v10 v11 : Value) (w : World) : Sem.run Try.prog (method 339 130 (.agg #[v0, v1, v2, v3, v4, v5, v6, v7, v8, v9, v10, v11]) "loop.example/reed/impl.leastLine") w = .ok (154, .agg #[v0, v1, v2, v3, v4, v5, v6, v7, v8, v9, v10, v11]) w := by kernel_rfl
theorem meth_top_while (v0 v1 v2 v3 v4 v5 v6 v7 v8 v9 v10 v11 : Value) (w : World) : Sem.run Try.prog (method 339 131 (.agg #[v0, v1, v2, v3, v4, v5, v6, v7, v8, v9, v10, v11]) "loop.example/reed/impl.top") w = .ok (152, .agg #[v0, v1, v2, v3, v4, v5, v6, v7, v8, v9, v10, v11]) w := by kernel_rfl
theorem meth_family_while (v0 v1 v2 v3 v4 v5 v6 v7 v8 v9 v10 v11 : Value) (w : World) : Sem.run Try.prog (method 339 131 (.agg #[v0, v1, v2, v3, v4, v5, v6, v7, v8, v9, v10, v11]) "loop.example/reed/impl.family") w = .ok (153, .agg #[v0, v1, v2, v3, v4, v5, v6, v7, v8, v9, v10, v11]) w := by kernel_rfl
theorem meth_leastLine_while (v0 v1 v2 v3 v4 v5 v6 v7 v8 v9 v10 v11 : Value) (w : World) : Sem.run Try.prog (method 339 131 (.agg #[v0, v1, v2, v3, v4, v5, v6, v7, v8, v9, v10, v11]) "loop.example/reed/impl.leastLine") w = .ok (154, .agg #[v0, v1, v2, v3, v4, v5, v6, v7, v8, v9, v10, v11]) w := by kernel_rfl
theorem meth_top_for (v0 v1 v2 v3 v4 v5 v6 v7 v8 v9 v10 v11 : Value) (w : World) : Sem.run Try.prog (method 339 132 (.agg #[v0, v1, v2, v3, v4, v5, v6, v7, v8, v9, v10, v11]) "loop.example/reed/impl.top") w = .ok (152, .agg #[v0, v1, v2, v3, v4, v5, v6, v7, v8, v9, v10, v11]) w := by kernel_rfl
theorem meth_family_for (v0 v1 v2 v3 v4 v5 v6 v7 v8 v9 v10 v11 : Value) (w : World) : Sem.run Try.prog (method 339 132 (.agg #[v0, v1, v2, v3, v4, v5, v6, v7, v8, v9, v10, v11]) "loop.example/reed/impl.family") w = .ok (153, .agg #[v0, v1, v2, v3, v4, v5, v6, v7, v8, v9, v10, v11]) w := by kernel_rfl
theorem meth_leastLine_for (v0 v1 v2 v3 v4 v5 v6 v7 v8 v9 v10 v11 : Value) (w : World) : Sem.run Try.prog (method 339 132 (.agg #[v0, v1, v2, v3, v4, v5, v6, v7, v8, v9, v10, v11]) "loop.example/reed/impl.leastLine") w = .ok (154, .agg #[v0, v1, v2, v3, v4, v5, v6, v7, v8, v9, v10, v11]) w := by kernel_rfl
theorem meth_top_each (v0 v1 v2 v3 v4 v5 v6 v7 v8 v9 v10 v11 : Value) (w : World) : Sem.run Try.prog (method 339 133 (.agg #[v0, v1, v2, v3, v4, v5, v6, v7, v8, v9, v10, v11]) "loop.example/reed/impl.top") w = .ok (152, .agg #[v0, v1, v2, v3, v4, v5, v6, v7, v8, v9, v10, v11]) w := by kernel_rfl
theorem meth_family_each (v0 v1 v2 v3 v4 v5 v6 v7 v8 v9 v10 v11 : Value) (w : World) : Sem.run Try.prog (method 339 133 (.agg #[v0, v1, v2, v3, v4, v5, v6, v7, v8, v9, v10, v11]) "loop.example/reed/impl.family") w = .ok (153, .agg #[v0, v1, v2, v3, v4, v5, v6, v7, v8, v9, v10, v11]) w := by kernel_rfl
theorem meth_leastLine_each (v0 v1 v2 v3 v4 v5 v6 v7 v8 v9 v10 v11 : Value) (w : World) : Sem.run Try.prog (method 339 133 (.agg #[v0, v1, v2, v3, v4, v5, v6, v7, v8, v9, v10, v11]) "loop.example/reed/impl.leastLine") w = .ok (154, .agg #[v0, v1, v2, v3, v4, v5, v6, v7, v8, v9, v10, v11]) w := by kernel_rfl
theorem meth_top_jump (v0 v1 v2 v3 v4 v5 v6 v7 v8 v9 v10 v11 : Value) (w : World) : Sem.run Try.prog (method 339 134 (.agg #[v0, v1, v2, v3, v4, v5, v6, v7, v8, v9, v10, v11]) "loop.example/reed/impl.top") w = .ok (152, .agg #[v0, v1, v2, v3, v4, v5, v6, v7, v8, v9, v10, v11]) w := by kernel_rfl
theorem meth_family_jump (v0 v1 v2 v3 v4 v5 v6 v7 v8 v9 v10 v11 : Value) (w : World) : Sem.run Try.prog (method 339 134 (.agg #[v0, v1, v2, v3, v4, v5, v6, v7, v8, v9, v10, v11]) "loop.example/reed/impl.family") w = .ok (153, .agg #[v0, v1, v2, v3, v4, v5, v6, v7, v8, v9, v10, v11]) w := by kernel_rfl
theorem meth_leastLine_jump (v0 v1 v2 v3 v4 v5 v6 v7 v8 v9 v10 v11 : Value) (w : World) : Sem.run Try.prog (method 339 134 (.agg #[v0, v1, v2, v3, v4, v5, v6, v7, v8, v9, v10, v11]) "loop.example/reed/impl.leastLine") w = .ok (154, .agg #[v0, v1, v2, v3, v4, v5, v6, v7, v8, v9, v10, v11]) w := by kernel_rfl
theorem meth_top_return (v0 v1 v2 v3 v4 v5 v6 v7 v8 v9 v10 v11 : Value) (w : World) : Sem.run Try.prog (method 339 135 (.agg #[v0, v1, v2, v3, v4, v5, v6, v7, v8, v9, v10, v11]) "loop.example/reed/impl.top") w = .ok (152, .agg #[v0, v1, v2, v3, v4, v5, v6, v7, v8, v9, v10, v11]) w := by kernel_rfl
theorem meth_family_return (v0 v1 v2 v3 v4 v5 v6 v7 v8 v9 v10 v11 : Value) (w : World) : Sem.run Try.prog (method 339 135 (.agg #[v0, v1, v2, v3, v4, v5, v6, v7, v8, v9, v10, v11]) "loop.example/reed/impl.family") w = .ok (153, .agg #[v0, v1, v2, v3, v4, v5, v6, v7, v8, v9, v10, v11]) w := by kernel_rfl
theorem meth_leastLine_return (v0 v1 v2 v3 v4 v5 v6 v7 v8 v9 v10 v11 : Value) (w : World) : Sem.run Try.prog (method 339 135 (.agg #[v0, v1, v2, v3, v4, v5, v6, v7, v8, v9, v10, v11]) "loop.example/reed/impl.leastLine") w = .ok (154, .agg #[v0, v1, v2, v3, v4, v5, v6, v7, v8, v9, v10, v11]) w := by kernel_rfl
theorem meth_top_try (v0 v1 v2 v3 v4 v5 v6 v7 v8 v9 v10 v11 : Value) (w : World) : Sem.run Try.prog (method 339 136 (.agg #[v0, v1, v2, v3, v4, v5, v6, v7, v8, v9, v10, v11]) "loop.example/reed/impl.top") w = .ok (152, .agg #[v0, v1, v2, v3, v4, v5, v6, v7, v8, v9, v10, v11]) w := by kernel_rfl
theorem meth_family_try (v0 v1 v2 v3 v4 v5 v6 v7 v8 v9 v10 v11 : Value) (w : World) : Sem.run Try.prog (method 339 136 (.agg #[v0, v1, v2, v3, v4, v5, v6, v7, v8, v9, v10, v11]) "loop.example/reed/impl.family") w = .ok (153, .agg #[v0, v1, v2, v3, v4, v5, v6, v7, v8, v9, v10, v11]) w := by kernel_rfl
theorem meth_leastLine_try (v0 v1 v2 v3 v4 v5 v6 v7 v8 v9 v10 v11 : Value) (w : World) : Sem.run Try.prog (method 339 136 (.agg #[v0, v1, v2, v3, v4, v5, v6, v7, v8, v9, v10, v11]) "loop.example/reed/impl.leastLine") w = .ok (154, .agg #[v0, v1, v2, v3, v4, v5, v6, v7, v8, v9, v10, v11]) w := by kernel_rfl
theorem meth_top_throw (v0 v1 v2 v3 v4 v5 v6 v7 v8 v9 v10 v11 : Value) (w : World) : Sem.run Try.prog (method 339 137 (.agg #[v0, v1, v2, v3, v4, v5, v6, v7, v8, v9, v10, v11]) "loop.example/reed/impl.top") w = .ok (152, .agg #[v0, v1, v2, v3, v4, v5, v6, v7, v8, v9, v10, v11]) w := by kernel_rfl
theorem meth_family_throw (v0 v1 v2 v3 v4 v5 v6 v7 v8 v9 v10 v11 : Value) (w : World) : Sem.run Try.prog (method 339 137 (.agg #[v0, v1, v2, v3, v4, v5, v6, v7, v8, v9, v10, v11]) "loop.example/reed/impl.family") w = .ok (153, .agg #[v0, v1, v2, v3, v4, v5, v6, v7, v8, v9, v10, v11]) w := by kernel_rfl
theorem meth_leastLine_throw (v0 v1 v2 v3 v4 v5 v6 v7 v8 v9 v10 v11 : Value) (w : World) : Sem.run Try.prog (method 339 137 (.agg #[v0, v1, v2, v3, v4, v5, v6, v7, v8, v9, v10, v11]) "loop.example/reed/impl.leastLine") w = .ok (154, .agg #[v0, v1, v2, v3, v4, v5, v6, v7, v8, v9, v10, v11]) w := by kernel_rfl
theorem meth_top_bare (v0 v1 v2 v3 v4 v5 v6 v7 v8 v9 v10 v11 : Value) (w : World) : Sem.run Try.prog (method 339 139 (.agg #[v0, v1, v2, v3, v4, v5, v6, v7, v8, v9, v10, v11]) "loop.example/reed/impl.top") w = .ok (152, .agg #[v0, v1, v2, v3, v4, v5, v6, v7, v8, v9, v10, v11]) w := by kernel_rfl
theorem meth_family_bare (v0 v1 v2 v3 v4 v5 v6 v7 v8 v9 v10 v11 : Value) (w : World) : Sem.run Try.prog (method 339 139 (.agg #[v0, v1, v2, v3, v4, v5, v6, v7, v8, v9, v10, v11]) "loop.example/reed/impl.family") w = .ok (155, .agg #[v0, v1, v2, v3, v4, v5, v6, v7, v8, v9, v10, v11]) w := by kernel_rfl
theorem meth_leastLine_bare (v0 v1 v2 v3 v4 v5 v6 v7 v8 v9 v10 v11 : Value) (w : World) : Sem.run Try.prog (method 339 139 (.agg #[v0, v1, v2, v3, v4, v5, v6, v7, v8, v9, v10, v11]) "loop.example/reed/impl.leastLine") w = .ok (151, .agg #[v0, v1, v2, v3, v4, v5, v6, v7, v8, v9, v10, v11]) w := by kernel_rfl
theorem meth_top_int (v0 v1 v2 v3 v4 v5 v6 v7 v8 v9 v10 v11 : Value) (w : World) : Sem.run Try.prog (method 339 141 (.agg #[v0, v1, v2, v3, v4, v5, v6, v7, v8, v9, v10, v11]) "loop.example/reed/impl.top") w = .ok (152, .agg #[v0, v1, v2, v3, v4, v5, v6, v7, v8, v9, v10, v11]) w := by kernel_rfl
theorem meth_family_int (v0 v1 v2 v3 v4 v5 v6 v7 v8 v9 v10 v11 : Value) (w : World) : Sem.run Try.prog (method 339 141 (.agg #[v0, v1, v2, v3, v4, v5, v6, v7, v8, v9, v10, v11]) "loop.example/reed/impl.family") w = .ok (155, .agg #[v0, v1, v2, v3, v4, v5, v6, v7, v8, v9, v10, v11]) w := by kernel_rfl
theorem meth_leastLine_int (v0 v1 v2 v3 v4 v5 v6 v7 v8 v9 v10 v11 : Value) (w : World) : Sem.run Try.prog (method 339 141 (.agg #[v0, v1, v2, v3, v4, v5, v6, v7, v8, v9, v10, v11]) "loop.example/reed/impl.leastLine") w = .ok (151, .agg #[v0, v1, v2, v3, v4, v5, v6, v7, v8, v9, v10, v11]) w := by kernel_rfl
theorem meth_top_flt (v0 v1 v2 v3 v4 v5 v6 v7 v8 v9 v10 v11 : Value) (w : World) : Sem.run Try.prog (method 339 142 (.agg #[v0, v1, v2, v3, v4, v5, v6, v7, v8, v9, v10, v11]) "loop.example/reed/impl.top") w = .ok (152, .agg #[v0, v1, v2, v3, v4, v5, v6, v7, v8, v9, v10, v11]) w := by kernel_rfl
theorem meth_family_flt (v0 v1 v2 v3 v4 v5 v6 v7 v8 v9 v10 v11 : Value) (w : World) : Sem.run Try.prog (method 339 142 (.agg #[v0, v1, v2, v3, v4, v5, v6, v7, v8, v9, v10, v11]) "loop.example/reed/impl.family") w = .ok (155, .agg #[v0, v1, v2, v3, v4, v5, v6, v7, v8, v9, v10, v11]) w := by kernel_rfl
theorem meth_leastLine_flt (v0 v1 v2 v3 v4 v5 v6 v7 v8 v9 v10 v11 : Value) (w : World) : Sem.run Try.prog (method 339 142 (.agg #[v0, v1, v2, v3, v4, v5, v6, v7, v8, v9, v10, v11]) "loop.example/reed/impl.leastLine") w = .ok (151, .agg #[v0, v1, v2, v3, v4, v5, v6, v7, v8, v9, v10, v11]) w := by kernel_rfl
theorem meth_top_str (v0 v1 v2 v3 v4 v5 v6 v7 v8 v9 v10 v11 : Value) (w : World) : Sem.run Try.prog (method 339 144 (.agg #[v0, v1, v2, v3, v4, v5, v6, v7, v8, v9, v10, v11]) "loop.example/reed/impl.top") w = .ok (152, .agg #[v0, v1, v2, v3, v4, v5, v6, v7, v8, v9, v10, v11]) w := by kernel_rfl
theorem meth_family_str (v0 v1 v2 v3 v4 v5 v6 v7 v8 v9 v10 v11 : Value) (w : World) : Sem.run Try.prog (method 339 144 (.agg #[v0, v1, v2, v3, v4, v5, v6, v7, v8, v9, v10, v11]) "loop.example/reed/impl.family") w = .ok (155, .agg #[v0, v1, v2, v3, v4, v5, v6, v7, v8, v9, v10, v11]) w := by kernel_rfl
theorem meth_leastLine_str (v0 v1 v2 v3 v4 v5 v6 v7 v8 v9 v10 v11 : Value) (w : World) : Sem.run Try.prog (method 339 144 (.agg #[v0, v1, v2, v3, v4, v5, v6, v7, v8, v9, v10, v11]) "loop.example/reed/impl.leastLine") w = .ok (151, .agg #[v0, v1, v2, v3, v4, v5, v6, v7, v8, v9, v10, v11]) w := by kernel_rfl
theorem meth_top_name (v0 v1 v2 v3 v4 v5 v6 v7 v8 v9 v10 v11 : Value) (w : World) : Sem.run Try.prog (method 339 145 (.agg #[v0, v1, v2, v3, v4, v5, v6, v7, v8, v9, v10, v11]) "loop.example/reed/impl.top") w = .ok (152, .agg #[v0, v1, v2, v3, v4, v5, v6, v7, v8, v9, v10, v11]) w := by kernel_rfl
theorem meth_family_name (v0 v1 v2 v3 v4 v5 v6 v7 v8 v9 v10 v11 : Value) (w : World) : Sem.run Try.prog (method 339 145 (.agg #[v0, v1, v2, v3, v4, v5, v6, v7, v8, v9, v10, v11]) "loop.example/reed/impl.family") w = .ok (155, .agg #[v0, v1, v2, v3, v4, v5, v6, v7, v8, v9, v10, v11]) w := by kernel_rfl
theorem meth_leastLine_name (v0 v1 v2 v3 v4 v5 v6 v7 v8 v9 v10 v11 : Value) (w : World) : Sem.run Try.prog (method 339 145 (.agg #[v0, v1, v2, v3, v4, v5, v6, v7, v8, v9, v10, v11]) "loop.example/reed/impl.leastLine") w = .ok (151, .agg #[v0, v1, v2, v3, v4, v5, v6, v7, v8, v9, v10, v11]) w := by kernel_rfl
theorem meth_top_rest (v0 v1 v2 v3 v4 v5 v6 v7 v8 v9 v10 v11 : Value) (w : World) : Sem.run Try.prog (method 339 140 (.agg #[v0, v1, v2, v3, v4, v5, v6, v7, v8, v9, v10, v11]) "loop.example/reed/impl.top") w = .ok (152, .agg #[v0, v1, v2, v3, v4, v5, v6, v7, v8, v9, v10, v11]) w := by kernel_rfl
theorem meth_family_rest (v0 v1 v2 v3 v4 v5 v6 v7 v8 v9 v10 v11 : Value) (w : World) : Sem.run Try.prog (method 339 140 (.agg #[v0, v1, v2, v3, v4, v5, v6, v7, v8, v9, v10, v11]) "loop.example/reed/impl.family") w = .ok (155, .agg #[v0, v1, v2, v3, v4, v5, v6, v7, v8, v9, v10, v11]) w := by kernel_rfl
theorem meth_leastLine_rest (v0 v1 v2 v3 v4 v5 v6 v7 v8 v9 v10 v11 : Value) (w : World) : Sem.run Try.prog (method 339 140 (.agg #[v0, v1, v2, v3, v4, v5, v6, v7, v8, v9, v10, v11]) "loop.example/reed/impl.leastLine") w = .ok (151, .agg #[v0, v1, v2, v3, v4, v5, v6, v7, v8, v9, v10, v11]) w := by kernel_rfl
theorem meth_top_either (v0 v1 v2 v3 v4 v5 v6 v7 v8 v9 v10 v11 : Value) (w : World) : Sem.run Try.prog (method 339 146 (.agg #[v0, v1, v2, v3, v4, v5, v6, v7, v8, v9, v10, v11]) "loop.example/reed/impl.top") w = .ok (152, .agg #[v0, v1, v2, v3, v4, v5, v6, v7, v8, v9, v10, v11]) w := by kernel_rfl
theorem meth_family_either (v0 v1 v2 v3 v4 v5 v6 v7 v8 v9 v10 v11 : Value) (w : World) : Sem.run Try.prog (method 339 146 (.agg #[v0, v1, v2, v3, v4, v5, v6, v7, v8, v9, v10, v11]) "loop.example/reed/impl.family") w = .ok (155, .agg #[v0, v1, v2, v3, v4, v5, v6, v7, v8, v9, v10, v11]) w := by kernel_rfl
theorem meth_leastLine_either (v0 v1 v2 v3 v4 v5 v6 v7 v8 v9 v10 v11 : Value) (w : World) : Sem.run Try.prog (method 339 146 (.agg #[v0, v1, v2, v3, v4, v5, v6, v7, v8, v9, v10, v11]) "loop.example/reed/impl.leastLine") w = .ok (151, .agg #[v0, v1, v2, v3, v4, v5, v6, v7, v8, v9, v10, v11]) w := by kernel_rfl
theorem meth_top_unary (v0 v1 v2 v3 v4 v5 v6 v7 v8 v9 v10 v11 : Value) (w : World) : Sem.run Try.prog (method 339 147 (.agg #[v0, v1, v2, v3, v4, v5, v6, v7, v8, v9, v10, v11]) "loop.example/reed/impl.top") w = .ok (152, .agg #[v0, v1, v2, v3, v4, v5, v6, v7, v8, v9, v10, v11]) w := by kernel_rfl
theorem meth_family_unary (v0 v1 v2 v3 v4 v5 v6 v7 v8 v9 v10 v11 : Value) (w : World) : Sem.run Try.prog (method 339 147 (.agg #[v0, v1, v2, v3, v4, v5, v6, v7, v8, v9, v10, v11]) "loop.example/reed/impl.family") w = .ok (155, .agg #[v0, v1, v2, v3, v4, v5, v6, v7, v8, v9, v10, v11]) w := by kernel_rfl
theorem meth_leastLine_unary (v0 v1 v2 v3 v4 v5 v6 v7 v8 v9 v10 v11 : Value) (w : World) : Sem.run Try.prog (method 339 147 (.agg #[v0, v1, v2, v3, v4, v5, v6, v7, v8, v9, v10, v11]) "loop.example/reed/impl.leastLine") w = .ok (151, .agg #[v0, v1, v2, v3, v4, v5, v6, v7, v8, v9, v10, v11]) w := by kernel_rfl
theorem meth_top_binary (v0 v1 v2 v3 v4 v5 v6 v7 v8 v9 v10 v11 : Value) (w : World) : Sem.run Try.prog (method 339 148 (.agg #[v0, v1, v2, v3, v4, v5, v6, v7, v8, v9, v10, v11]) "loop.example/reed/impl.top") w = .ok (152, .agg #[v0, v1, v2, v3, v4, v5, v6, v7, v8, v9, v10, v11]) w := by kernel_rfl
theorem meth_family_binary (v0 v1 v2 v3 v4 v5 v6 v7 v8 v9 v10 v11 : Value) (w : World) : Sem.run Try.prog (method 339 148 (.agg #[v0, v1, v2, v3, v4, v5, v6, v7, v8, v9, v10, v11]) "loop.example/reed/impl.family") w = .ok (155, .agg #[v0, v1, v2, v3, v4, v5, v6, v7, v8, v9, v10, v11]) w := by kernel_rfl
theorem meth_leastLine_binary (v0 v1 v2 v3 v4 v5 v6 v7 v8 v9 v10 v11 : Value) (w : World) : Sem.run Try.prog (method 339 148 (.agg #[v0, v1, v2, v3, v4, v5, v6, v7, v8, v9, v10, v11]) "loop.example/reed/impl.leastLine") w = .ok (151, .agg #[v0, v1, v2, v3, v4, v5, v6, v7, v8, v9, v10, v11]) w := by kernel_rfl
theorem meth_top_index (v0 v1 v2 v3 v4 v5 v6 v7 v8 v9 v10 v11 : Value) (w : World) : Sem.run Try.prog (method 339 149 (.agg #[v0, v1, v2, v3, v4, v5, v6, v7, v8, v9, v10, v11]) "loop.example/reed/impl.top") w = .ok (152, .agg #[v0, v1, v2, v3, v4, v5, v6, v7, v8, v9, v10, v11]) w := by kernel_rfl
theorem meth_family_index (v0 v1 v2 v3 v4 v5 v6 v7 v8 v9 v10 v11 : Value) (w : World) : Sem.run Try.prog (method 339 149 (.agg #[v0, v1, v2, v3, v4, v5, v6, v7, v8, v9, v10, v11]) "loop.example/reed/impl.family") w = .ok (155, .agg #[v0, v1, v2, v3, v4, v5, v6, v7, v8, v9, v10, v11]) w := by kernel_rfl
theorem meth_leastLine_index (v0 v1 v2 v3 v4 v5 v6 v7 v8 v9 v10 v11 : Value) (w : World) : Sem.run Try.prog (method 339 149 (.agg #[v0, v1, v2, v3, v4, v5, v6, v7, v8, v9, v10, v11]) "loop.example/reed/impl.leastLine") w = .ok (151, .agg #[v0, v1, v2, v3, v4, v5, v6, v7, v8, v9, v10, v11]) w := by kernel_rfl
theorem meth_top_field (v0 v1 v2 v3 v4 v5 v6 v7 v8 v9 v10 v11 : Value) (w : World) : Sem.run Try.prog (method 339 150 (.agg #[v0, v1, v2, v3, v4, v5, v6, v7, v8, v9, v10, v11]) "loop.example/reed/impl.top") w = .ok (152, .agg #[v0, v1, v2, v3, v4, v5, v6, v7, v8, v9, v10, v11]) w := by kernel_rfl
theorem meth_family_field (v0 v1 v2 v3 v4 v5 v6 v7 v8 v9 v10 v11 : Value) (w : World) : Sem.run Try.prog (method 339 150 (.agg #[v0, v1, v2, v3, v4, v5, v6, v7, v8, v9, v10, v11]) "loop.example/reed/impl.family") w = .ok (155, .agg #[v0, v1, v2, v3, v4, v5, v6, v7, v8, v9, v10, v11]) w := by kernel_rfl
theorem meth_leastLine_field (v0 v1 v2 v3 v4 v5 v6 v7 v8 v9 v10 v11 : Value) (w : World) : Sem.run Try.prog (method 339 150 (.agg #[v0, v1, v2, v3, v4, v5, v6, v7, v8, v9, v10, v11]) "loop.example/reed/impl.leastLine") w = .ok (151, .agg #[v0, v1, v2, v3, v4, v5, v6, v7, v8, v9, v10, v11]) w := by kernel_rfl
theorem meth_top_call (v0 v1 v2 v3 v4 v5 v6 v7 v8 v9 v10 v11 : Value) (w : World) : Sem.run Try.prog (method 339 151 (.agg #[v0, v1, v2, v3, v4, v5, v6, v7, v8, v9, v10, v11]) "loop.example/reed/impl.top") w = .ok (152, .agg #[v0, v1, v2, v3, v4, v5, v6, v7, v8, v9, v10, v11]) w := by kernel_rfl
theorem meth_family_call (v0 v1 v2 v3 v4 v5 v6 v7 v8 v9 v10 v11 : Value) (w : World) : Sem.run Try.prog (method 339 151 (.agg #[v0, v1, v2, v3, v4, v5, v6, v7, v8, v9, v10, v11]) "loop.example/reed/impl.family") w = .ok (155, .agg #[v0, v1, v2, v3, v4, v5, v6, v7, v8, v9, v10, v11]) w := by kernel_rfl
theorem meth_leastLine_call (v0 v1 v2 v3 v4 v5 v6 v7 v8 v9 v10 v11 : Value) (w : World) : Sem.run Try.prog (method 339 151 (.agg #[v0, v1, v2, v3, v4, v5, v6, v7, v8, v9, v10, v11]) "loop.example/reed/impl.leastLine") w = .ok (151, .agg #[v0, v1, v2, v3, v4, v5, v6, v7, v8, v9, v10, v11]) w := by kernel_rfl
theorem meth_top_table (v0 v1 v2 v3 v4 v5 v6 v7 v8 v9 v10 v11 : Value) (w : World) : Sem.run Try.prog (method 339 152 (.agg #[v0, v1, v2, v3, v4, v5, v6, v7, v8, v9, v10, v11]) "loop.example/reed/impl.top") w = .ok (152, .agg #[v0, v1, v2, v3, v4, v5, v6, v7, v8, v9, v10, v11]) w := by kernel_rfl
theorem meth_family_table (v0 v1 v2 v3 v4 v5 v6 v7 v8 v9 v10 v11 : Value) (w : World) : Sem.run Try.prog (method 339 152 (.agg #[v0, v1, v2, v3, v4, v5, v6, v7, v8, v9, v10, v11]) "loop.example/reed/impl.family") w = .ok (155, .agg #[v0, v1, v2, v3, v4, v5, v6, v7, v8, v9, v10, v11]) w := by kernel_rfl
theorem meth_leastLine_table (v0 v1 v2 v3 v4 v5 v6 v7 v8 v9 v10 v11 : Value) (w : World) : Sem.run Try.prog (method 339 152 (.agg #[v0, v1, v2, v3, v4, v5, v6, v7, v8, v9, v10, v11]) "loop.example/reed/impl.leastLine") w = .ok (151, .agg #[v0, v1, v2, v3, v4, v5, v6, v7, v8, v9, v10, v11]) w := by kernel_rfl
theorem meth_top_fn (v0 v1 v2 v3 v4 v5 v6 v7 v8 v9 v10 v11 : Value) (w : World) : Sem.run Try.prog (method 339 153 (.agg #[v0, v1, v2, v3, v4, v5, v6, v7, v8, v9, v10, v11]) "loop.example/reed/impl.top") w = .ok (152, .agg #[v0, v1, v2, v3, v4, v5, v6, v7, v8, v9, v10, v11]) w := by kernel_rfl
theorem meth_family_fn (v0 v1 v2 v3 v4 v5 v6 v7 v8 v9 v10 v11 : Value) (w : World) : Sem.run Try.prog (method 339 153 (.agg #[v0, v1, v2, v3, v4, v5, v6, v7, v8, v9, v10, v11]) "loop.example/reed/impl.family") w = .ok (155, .agg #[v0, v1, v2, v3, v4, v5, v6, v7, v8, v9, v10, v11]) w := by kernel_rfl
theorem meth_leastLine_fn (v0 v1 v2 v3 v4 v5 v6 v7 v8 v9 v10 v11 : Value) (w : World) : Sem.run Try.prog (method 339 153 (.agg #[v0, v1, v2, v3, v4, v5, v6, v7, v8, v9, v10, v11]) "loop.example/reed/impl.leastLine") w = .ok (151, .agg #[v0, v1, v2, v3, v4, v5, v6, v7, v8, v9, v10, v11]) w := by kernel_rfl
theorem meth_top_one (v0 v1 v2 v3 v4 v5 v6 v7 v8 v9 v10 v11 : Value) (w : World) : Sem.run Try.prog (method 339 155 (.agg #[v0, v1, v2, v3, v4, v5, v6, v7, v8, v9, v10, v11]) "loop.example/reed/impl.top") w = .ok (152, .agg #[v0, v1, v2, v3, v4, v5, v6, v7, v8, v9, v10, v11]) w := by kernel_rfl
theorem meth_family_one (v0 v1 v2 v3 v4 v5 v6 v7 v8 v9 v10 v11 : Value) (w : World) : Sem.run Try.prog (method 339 155 (.agg #[v0, v1, v2, v3, v4, v5, v6, v7, v8, v9, v10, v11]) "loop.example/reed/impl.family") w = .ok (155, .agg #[v0, v1, v2, v3, v4, v5, v6, v7, v8, v9, v10, v11]) w := by kernel_rfl
theorem meth_leastLine_one (v0 v1 v2 v3 v4 v5 v6 v7 v8 v9 v10 v11 : Value) (w : World) : Sem.run Try.prog (method 339 155 (.agg #[v0, v1, v2, v3, v4, v5, v6, v7, v8, v9, v10, v11]) "loop.example/reed/impl.leastLine") w = .ok (151, .agg #[v0, v1, v2, v3, v4, v5, v6, v7, v8, v9, v10, v11]) w := by kernel_rfl
theorem meth_top_item (v0 v1 v2 v3 v4 v5 v6 v7 v8 v9 v10 v11 : Value) (w : World) : Sem.run Try.prog (method 339 158 (.agg #[v0, v1, v2, v3, v4, v5, v6, v7, v8, v9, v10, v11]) "loop.example/reed/impl.top") w = .ok (152, .agg #[v0, v1, v2, v3, v4, v5, v6, v7, v8, v9, v10, v11]) w := by kernel_rfl
theorem meth_family_item (v0 v1 v2 v3 v4 v5 v6 v7 v8 v9 v10 v11 : Value) (w : World) : Sem.run Try.prog (method 339 158 (.agg #[v0, v1, v2, v3, v4, v5, v6, v7, v8, v9, v10, v11]) "loop.example/reed/impl.family") w = .ok (156, .agg #[v0, v1, v2, v3, v4, v5, v6, v7, v8, v9, v10, v11]) w := by kernel_rfl
theorem meth_leastLine_item (v0 v1 v2 v3 v4 v5 v6 v7 v8 v9 v10 v11 : Value) (w : World) : Sem.run Try.prog (method 339 158 (.agg #[v0, v1, v2, v3, v4, v5, v6, v7, v8, v9, v10, v11]) "loop.example/reed/impl.leastLine") w = .ok (151, .agg #[v0, v1, v2, v3, v4, v5, v6, v7, v8, v9, v10, v11]) w := by kernel_rfl
theorem meth_top_pair (v0 v1 v2 v3 v4 v5 v6 v7 v8 v9 v10 v11 : Value) (w : World) : Sem.run Try.prog (method 339 159 (.agg #[v0, v1, v2, v3, v4, v5, v6, v7, v8, v9, v10, v11]) "loop.example/reed/impl.top") w = .ok (152, .agg #[v0, v1, v2, v3, v4, v5, v6, v7, v8, v9, v10, v11]) w := by kernel_rfl
theorem meth_family_pair (v0 v1 v2 v3 v4 v5 v6 v7 v8 v9 v10 v11 : Value) (w : World) : Sem.run Try.prog (method 339 159 (.agg #[v0, v1, v2, v3, v4, v5, v6, v7, v8, v9, v10, v11]) "loop.example/reed/impl.family") w = .ok (156, .agg #[v0, v1, v2, v3, v4, v5, v6, v7, v8, v9, v10, v11]) w := by kernel_rfl
theorem meth_leastLine_pair (v0 v1 v2 v3 v4 v5 v6 v7 v8 v9 v10 v11 : Value) (w : World) : Sem.run Try.prog (method 339 159 (.agg #[v0, v1, v2, v3, v4, v5, v6, v7, v8, v9, v10, v11]) "loop.example/reed/impl.leastLine") w = .ok (151, .agg #[v0, v1, v2, v3, v4, v5, v6, v7, v8, v9, v10, v11]) w := by kernel_rfl
theorem meth_top_named (v0 v1 v2 v3 v4 v5 v6 v7 v8 v9 v10 v11 : Value) (w : World) : Sem.run Try.prog (method 339 160 (.agg #[v0, v1, v2, v3, v4, v5, v6, v7, v8, v9, v10, v11]) "loop.example/reed/impl.top") w = .ok (152, .agg #[v0, v1, v2, v3, v4, v5, v6, v7, v8, v9, v10, v11]) w := by kernel_rfl
theorem meth_family_named (v0 v1 v2 v3 v4 v5 v6 v7 v8 v9 v10 v11 : Value) (w : World) : Sem.run Try.prog (method 339 160 (.agg #[v0, v1, v2, v3, v4, v5, v6, v7, v8, v9, v10, v11]) "loop.example/reed/impl.family") w = .ok (156, .agg #[v0, v1, v2, v3, v4, v5, v6, v7, v8, v9, v10, v11]) w := by kernel_rfl
theorem meth_leastLine_named (v0 v1 v2 v3 v4 v5 v6 v7 v8 v9 v10 v11 : Value) (w : World) : Sem.run Try.prog (method 339 160 (.agg #[v0, v1, v2, v3, v4, v5, v6, v7, v8, v9, v10, v11]) "loop.example/reed/impl.leastLine") w = .ok (151, .agg #[v0, v1, v2, v3, v4, v5, v6, v7, v8, v9, v10, v11]) w := by kernel_rfl
theorem meth_top_strange (v0 v1 v2 v3 v4 v5 v6 v7 v8 v9 v10 v11 : Value) (w : World) : Sem.run Try.prog (method 339 112 (.agg #[v0, v1, v2, v3, v4, v5, v6, v7, v8, v9, v10, v11]) "loop.example/reed/impl.top") w = .ok (152, .agg #[v0, v1, v2, v3, v4, v5, v6, v7, v8, v9, v10, v11]) w := by kernel_rfl
theorem meth_family_strange (v0 v1 v2 v3 v4 v5 v6 v7 v8 v9 v10 v11 : Value) (w : World) : Sem.run Try.prog (method 339 112 (.agg #[v0, v1, v2, v3, v4, v5, v6, v7, v8, v9, v10, v11]) "loop.example/reed/impl.family") w = .ok (150, .agg #[v0, v1, v2, v3, v4, v5, v6, v7, v8, v9, v10, v11]) w := by kernel_rfl
theorem meth_leastLine_strange (v0 v1 v2 v3 v4 v5 v6 v7 v8 v9 v10 v11 : Value) (w : World) : Sem.run Try.prog (method 339 112 (.agg #[v0, v1, v2, v3, v4, v5, v6, v7, v8, v9, v10, v11]) "loop.example/reed/impl.leastLine") w = .ok (151, .agg #[v0, v1, v2, v3, v4, v5, v6, v7, v8, v9, v10, v11]) w := by kernel_rfl
theorem as_block_if (t : TypeId) (v : Value) (w : World) : Sem.run Try.prog (Instr.typeAssert (.iface t v) 85 120 true) w = Sem.run Try.prog (if t = 120 then pure (.tuple #[v, .bool true]) else (do let z ← zeroValue 120; pure (.tuple #[z, .bool false]))) w := by kernel_rfl
theorem as_block_z (w : World) : Sem.run Try.prog (do let z ← zeroValue 120; pure (Value.tuple #[z, .bool false])) w = .ok (Value.tuple #[.agg #[.int .i64 0, .int .i64 0, .int .i64 0, .int .i64 0, .int .i64 0, .int .i64 0, .int .i64 0, .float .f64 0, .string ByteArray.empty, .slice none 0 0, .slice none 0 0, .slice none 0 0], .bool false]) w := by kernel_rfl
theorem as_block_yes (v : Value) (w : World) : Sem.run Try.prog (Instr.typeAssert (.iface 120 v) 85 120 true) w = .ok (.tuple #[v, .bool true]) w := by kernel_rfl
theorem as_block_no {t : TypeId} (h : t ≠ 120) (v : Value) (w : World) : Sem.run Try.prog (Instr.typeAssert (.iface t v) 85 120 true) w = .ok (.tuple #[.agg #[.int .i64 0, .int .i64 0, .int .i64 0, .int .i64 0, .int .i64 0, .int .i64 0, .int .i64 0, .float .f64 0, .string ByteArray.empty, .slice none 0 0, .slice none 0 0, .slice none 0 0], .bool false]) w := by
  rw [as_block_if, if_neg h]; exact as_block_z w
theorem as_let_if (t : TypeId) (v : Value) (w : World) : Sem.run Try.prog (Instr.typeAssert (.iface t v) 85 123 true) w = Sem.run Try.prog (if t = 123 then pure (.tuple #[v, .bool true]) else (do let z ← zeroValue 123; pure (.tuple #[z, .bool false]))) w := by kernel_rfl
theorem as_let_z (w : World) : Sem.run Try.prog (do let z ← zeroValue 123; pure (Value.tuple #[z, .bool false])) w = .ok (Value.tuple #[.agg #[.int .i64 0, .int .i64 0, .int .i64 0, .int .i64 0, .int .i64 0, .int .i64 0, .int .i64 0, .float .f64 0, .string ByteArray.empty, .slice none 0 0, .slice none 0 0, .slice none 0 0], .bool false]) w := by kernel_rfl
theorem as_let_yes (v : Value) (w : World) : Sem.run Try.prog (Instr.typeAssert (.iface 123 v) 85 123 true) w = .ok (.tuple #[v, .bool true]) w := by kernel_rfl
theorem as_let_no {t : TypeId} (h : t ≠ 123) (v : Value) (w : World) : Sem.run Try.prog (Instr.typeAssert (.iface t v) 85 123 true) w = .ok (.tuple #[.agg #[.int .i64 0, .int .i64 0, .int .i64 0, .int .i64 0, .int .i64 0, .int .i64 0, .int .i64 0, .float .f64 0, .string ByteArray.empty, .slice none 0 0, .slice none 0 0, .slice none 0 0], .bool false]) w := by
  rw [as_let_if, if_neg h]; exact as_let_z w
theorem as_const_if (t : TypeId) (v : Value) (w : World) : Sem.run Try.prog (Instr.typeAssert (.iface t v) 85 124 true) w = Sem.run Try.prog (if t = 124 then pure (.tuple #[v, .bool true]) else (do let z ← zeroValue 124; pure (.tuple #[z, .bool false]))) w := by kernel_rfl
theorem as_const_z (w : World) : Sem.run Try.prog (do let z ← zeroValue 124; pure (Value.tuple #[z, .bool false])) w = .ok (Value.tuple #[.agg #[.int .i64 0, .int .i64 0, .int .i64 0, .int .i64 0, .int .i64 0, .int .i64 0, .int .i64 0, .float .f64 0, .string ByteArray.empty, .slice none 0 0, .slice none 0 0, .slice none 0 0], .bool false]) w := by kernel_rfl
theorem as_const_yes (v : Value) (w : World) : Sem.run Try.prog (Instr.typeAssert (.iface 124 v) 85 124 true) w = .ok (.tuple #[v, .bool true]) w := by kernel_rfl
theorem as_const_no {t : TypeId} (h : t ≠ 124) (v : Value) (w : World) : Sem.run Try.prog (Instr.typeAssert (.iface t v) 85 124 true) w = .ok (.tuple #[.agg #[.int .i64 0, .int .i64 0, .int .i64 0, .int .i64 0, .int .i64 0, .int .i64 0, .int .i64 0, .float .f64 0, .string ByteArray.empty, .slice none 0 0, .slice none 0 0, .slice none 0 0], .bool false]) w := by
  rw [as_const_if, if_neg h]; exact as_const_z w
theorem as_ownFn_if (t : TypeId) (v : Value) (w : World) : Sem.run Try.prog (Instr.typeAssert (.iface t v) 85 126 true) w = Sem.run Try.prog (if t = 126 then pure (.tuple #[v, .bool true]) else (do let z ← zeroValue 126; pure (.tuple #[z, .bool false]))) w := by kernel_rfl
theorem as_ownFn_z (w : World) : Sem.run Try.prog (do let z ← zeroValue 126; pure (Value.tuple #[z, .bool false])) w = .ok (Value.tuple #[.agg #[.int .i64 0, .int .i64 0, .int .i64 0, .int .i64 0, .int .i64 0, .int .i64 0, .int .i64 0, .float .f64 0, .string ByteArray.empty, .slice none 0 0, .slice none 0 0, .slice none 0 0], .bool false]) w := by kernel_rfl
theorem as_ownFn_yes (v : Value) (w : World) : Sem.run Try.prog (Instr.typeAssert (.iface 126 v) 85 126 true) w = .ok (.tuple #[v, .bool true]) w := by kernel_rfl
theorem as_ownFn_no {t : TypeId} (h : t ≠ 126) (v : Value) (w : World) : Sem.run Try.prog (Instr.typeAssert (.iface t v) 85 126 true) w = .ok (.tuple #[.agg #[.int .i64 0, .int .i64 0, .int .i64 0, .int .i64 0, .int .i64 0, .int .i64 0, .int .i64 0, .float .f64 0, .string ByteArray.empty, .slice none 0 0, .slice none 0 0, .slice none 0 0], .bool false]) w := by
  rw [as_ownFn_if, if_neg h]; exact as_ownFn_z w
theorem as_set_if (t : TypeId) (v : Value) (w : World) : Sem.run Try.prog (Instr.typeAssert (.iface t v) 85 127 true) w = Sem.run Try.prog (if t = 127 then pure (.tuple #[v, .bool true]) else (do let z ← zeroValue 127; pure (.tuple #[z, .bool false]))) w := by kernel_rfl
theorem as_set_z (w : World) : Sem.run Try.prog (do let z ← zeroValue 127; pure (Value.tuple #[z, .bool false])) w = .ok (Value.tuple #[.agg #[.int .i64 0, .int .i64 0, .int .i64 0, .int .i64 0, .int .i64 0, .int .i64 0, .int .i64 0, .float .f64 0, .string ByteArray.empty, .slice none 0 0, .slice none 0 0, .slice none 0 0], .bool false]) w := by kernel_rfl
theorem as_set_yes (v : Value) (w : World) : Sem.run Try.prog (Instr.typeAssert (.iface 127 v) 85 127 true) w = .ok (.tuple #[v, .bool true]) w := by kernel_rfl
theorem as_set_no {t : TypeId} (h : t ≠ 127) (v : Value) (w : World) : Sem.run Try.prog (Instr.typeAssert (.iface t v) 85 127 true) w = .ok (.tuple #[.agg #[.int .i64 0, .int .i64 0, .int .i64 0, .int .i64 0, .int .i64 0, .int .i64 0, .int .i64 0, .float .f64 0, .string ByteArray.empty, .slice none 0 0, .slice none 0 0, .slice none 0 0], .bool false]) w := by
  rw [as_set_if, if_neg h]; exact as_set_z w
theorem as_do_if (t : TypeId) (v : Value) (w : World) : Sem.run Try.prog (Instr.typeAssert (.iface t v) 85 129 true) w = Sem.run Try.prog (if t = 129 then pure (.tuple #[v, .bool true]) else (do let z ← zeroValue 129; pure (.tuple #[z, .bool false]))) w := by kernel_rfl
theorem as_do_z (w : World) : Sem.run Try.prog (do let z ← zeroValue 129; pure (Value.tuple #[z, .bool false])) w = .ok (Value.tuple #[.agg #[.int .i64 0, .int .i64 0, .int .i64 0, .int .i64 0, .int .i64 0, .int .i64 0, .int .i64 0, .float .f64 0, .string ByteArray.empty, .slice none 0 0, .slice none 0 0, .slice none 0 0], .bool false]) w := by kernel_rfl
theorem as_do_yes (v : Value) (w : World) : Sem.run Try.prog (Instr.typeAssert (.iface 129 v) 85 129 true) w = .ok (.tuple #[v, .bool true]) w := by kernel_rfl
theorem as_do_no {t : TypeId} (h : t ≠ 129) (v : Value) (w : World) : Sem.run Try.prog (Instr.typeAssert (.iface t v) 85 129 true) w = .ok (.tuple #[.agg #[.int .i64 0, .int .i64 0, .int .i64 0, .int .i64 0, .int .i64 0, .int .i64 0, .int .i64 0, .float .f64 0, .string ByteArray.empty, .slice none 0 0, .slice none 0 0, .slice none 0 0], .bool false]) w := by
  rw [as_do_if, if_neg h]; exact as_do_z w
theorem as_if_if (t : TypeId) (v : Value) (w : World) : Sem.run Try.prog (Instr.typeAssert (.iface t v) 85 130 true) w = Sem.run Try.prog (if t = 130 then pure (.tuple #[v, .bool true]) else (do let z ← zeroValue 130; pure (.tuple #[z, .bool false]))) w := by kernel_rfl
theorem as_if_z (w : World) : Sem.run Try.prog (do let z ← zeroValue 130; pure (Value.tuple #[z, .bool false])) w = .ok (Value.tuple #[.agg #[.int .i64 0, .int .i64 0, .int .i64 0, .int .i64 0, .int .i64 0, .int .i64 0, .int .i64 0, .float .f64 0, .string ByteArray.empty, .slice none 0 0, .slice none 0 0, .slice none 0 0], .bool false]) w := by kernel_rfl
theorem as_if_yes (v : Value) (w : World) : Sem.run Try.prog (Instr.typeAssert (.iface 130 v) 85 130 true) w = .ok (.tuple #[v, .bool true]) w := by kernel_rfl
theorem as_if_no {t : TypeId} (h : t ≠ 130) (v : Value) (w : World) : Sem.run Try.prog (Instr.typeAssert (.iface t v) 85 130 true) w = .ok (.tuple #[.agg #[.int .i64 0, .int .i64 0, .int .i64 0, .int .i64 0, .int .i64 0, .int .i64 0, .int .i64 0, .float .f64 0, .string ByteArray.empty, .slice none 0 0, .slice none 0 0, .slice none 0 0], .bool false]) w := by
  rw [as_if_if, if_neg h]; exact as_if_z w
theorem as_while_if (t : TypeId) (v : Value) (w : World) : Sem.run Try.prog (Instr.typeAssert (.iface t v) 85 131 true) w = Sem.run Try.prog (if t = 131 then pure (.tuple #[v, .bool true]) else (do let z ← zeroValue 131; pure (.tuple #[z, .bool false]))) w := by kernel_rfl
theorem as_while_z (w : World) : Sem.run Try.prog (do let z ← zeroValue 131; pure (Value.tuple #[z, .bool false])) w = .ok (Value.tuple #[.agg #[.int .i64 0, .int .i64 0, .int .i64 0, .int .i64 0, .int .i64 0, .int .i64 0, .int .i64 0, .float .f64 0, .string ByteArray.empty, .slice none 0 0, .slice none 0 0, .slice none 0 0], .bool false]) w := by kernel_rfl
theorem as_while_yes (v : Value) (w : World) : Sem.run Try.prog (Instr.typeAssert (.iface 131 v) 85 131 true) w = .ok (.tuple #[v, .bool true]) w := by kernel_rfl
theorem as_while_no {t : TypeId} (h : t ≠ 131) (v : Value) (w : World) : Sem.run Try.prog (Instr.typeAssert (.iface t v) 85 131 true) w = .ok (.tuple #[.agg #[.int .i64 0, .int .i64 0, .int .i64 0, .int .i64 0, .int .i64 0, .int .i64 0, .int .i64 0, .float .f64 0, .string ByteArray.empty, .slice none 0 0, .slice none 0 0, .slice none 0 0], .bool false]) w := by
  rw [as_while_if, if_neg h]; exact as_while_z w
theorem as_for_if (t : TypeId) (v : Value) (w : World) : Sem.run Try.prog (Instr.typeAssert (.iface t v) 85 132 true) w = Sem.run Try.prog (if t = 132 then pure (.tuple #[v, .bool true]) else (do let z ← zeroValue 132; pure (.tuple #[z, .bool false]))) w := by kernel_rfl
theorem as_for_z (w : World) : Sem.run Try.prog (do let z ← zeroValue 132; pure (Value.tuple #[z, .bool false])) w = .ok (Value.tuple #[.agg #[.int .i64 0, .int .i64 0, .int .i64 0, .int .i64 0, .int .i64 0, .int .i64 0, .int .i64 0, .float .f64 0, .string ByteArray.empty, .slice none 0 0, .slice none 0 0, .slice none 0 0], .bool false]) w := by kernel_rfl
theorem as_for_yes (v : Value) (w : World) : Sem.run Try.prog (Instr.typeAssert (.iface 132 v) 85 132 true) w = .ok (.tuple #[v, .bool true]) w := by kernel_rfl
theorem as_for_no {t : TypeId} (h : t ≠ 132) (v : Value) (w : World) : Sem.run Try.prog (Instr.typeAssert (.iface t v) 85 132 true) w = .ok (.tuple #[.agg #[.int .i64 0, .int .i64 0, .int .i64 0, .int .i64 0, .int .i64 0, .int .i64 0, .int .i64 0, .float .f64 0, .string ByteArray.empty, .slice none 0 0, .slice none 0 0, .slice none 0 0], .bool false]) w := by
  rw [as_for_if, if_neg h]; exact as_for_z w
theorem as_each_if (t : TypeId) (v : Value) (w : World) : Sem.run Try.prog (Instr.typeAssert (.iface t v) 85 133 true) w = Sem.run Try.prog (if t = 133 then pure (.tuple #[v, .bool true]) else (do let z ← zeroValue 133; pure (.tuple #[z, .bool false]))) w := by kernel_rfl
theorem as_each_z (w : World) : Sem.run Try.prog (do let z ← zeroValue 133; pure (Value.tuple #[z, .bool false])) w = .ok (Value.tuple #[.agg #[.int .i64 0, .int .i64 0, .int .i64 0, .int .i64 0, .int .i64 0, .int .i64 0, .int .i64 0, .float .f64 0, .string ByteArray.empty, .slice none 0 0, .slice none 0 0, .slice none 0 0], .bool false]) w := by kernel_rfl
theorem as_each_yes (v : Value) (w : World) : Sem.run Try.prog (Instr.typeAssert (.iface 133 v) 85 133 true) w = .ok (.tuple #[v, .bool true]) w := by kernel_rfl
theorem as_each_no {t : TypeId} (h : t ≠ 133) (v : Value) (w : World) : Sem.run Try.prog (Instr.typeAssert (.iface t v) 85 133 true) w = .ok (.tuple #[.agg #[.int .i64 0, .int .i64 0, .int .i64 0, .int .i64 0, .int .i64 0, .int .i64 0, .int .i64 0, .float .f64 0, .string ByteArray.empty, .slice none 0 0, .slice none 0 0, .slice none 0 0], .bool false]) w := by
  rw [as_each_if, if_neg h]; exact as_each_z w
theorem as_jump_if (t : TypeId) (v : Value) (w : World) : Sem.run Try.prog (Instr.typeAssert (.iface t v) 85 134 true) w = Sem.run Try.prog (if t = 134 then pure (.tuple #[v, .bool true]) else (do let z ← zeroValue 134; pure (.tuple #[z, .bool false]))) w := by kernel_rfl
theorem as_jump_z (w : World) : Sem.run Try.prog (do let z ← zeroValue 134; pure (Value.tuple #[z, .bool false])) w = .ok (Value.tuple #[.agg #[.int .i64 0, .int .i64 0, .int .i64 0, .int .i64 0, .int .i64 0, .int .i64 0, .int .i64 0, .float .f64 0, .string ByteArray.empty, .slice none 0 0, .slice none 0 0, .slice none 0 0], .bool false]) w := by kernel_rfl
theorem as_jump_yes (v : Value) (w : World) : Sem.run Try.prog (Instr.typeAssert (.iface 134 v) 85 134 true) w = .ok (.tuple #[v, .bool true]) w := by kernel_rfl
theorem as_jump_no {t : TypeId} (h : t ≠ 134) (v : Value) (w : World) : Sem.run Try.prog (Instr.typeAssert (.iface t v) 85 134 true) w = .ok (.tuple #[.agg #[.int .i64 0, .int .i64 0, .int .i64 0, .int .i64 0, .int .i64 0, .int .i64 0, .int .i64 0, .float .f64 0, .string ByteArray.empty, .slice none 0 0, .slice none 0 0, .slice none 0 0], .bool false]) w := by
  rw [as_jump_if, if_neg h]; exact as_jump_z w
theorem as_return_if (t : TypeId) (v : Value) (w : World) : Sem.run Try.prog (Instr.typeAssert (.iface t v) 85 135 true) w = Sem.run Try.prog (if t = 135 then pure (.tuple #[v, .bool true]) else (do let z ← zeroValue 135; pure (.tuple #[z, .bool false]))) w := by kernel_rfl
theorem as_return_z (w : World) : Sem.run Try.prog (do let z ← zeroValue 135; pure (Value.tuple #[z, .bool false])) w = .ok (Value.tuple #[.agg #[.int .i64 0, .int .i64 0, .int .i64 0, .int .i64 0, .int .i64 0, .int .i64 0, .int .i64 0, .float .f64 0, .string ByteArray.empty, .slice none 0 0, .slice none 0 0, .slice none 0 0], .bool false]) w := by kernel_rfl
theorem as_return_yes (v : Value) (w : World) : Sem.run Try.prog (Instr.typeAssert (.iface 135 v) 85 135 true) w = .ok (.tuple #[v, .bool true]) w := by kernel_rfl
theorem as_return_no {t : TypeId} (h : t ≠ 135) (v : Value) (w : World) : Sem.run Try.prog (Instr.typeAssert (.iface t v) 85 135 true) w = .ok (.tuple #[.agg #[.int .i64 0, .int .i64 0, .int .i64 0, .int .i64 0, .int .i64 0, .int .i64 0, .int .i64 0, .float .f64 0, .string ByteArray.empty, .slice none 0 0, .slice none 0 0, .slice none 0 0], .bool false]) w := by
  rw [as_return_if, if_neg h]; exact as_return_z w
theorem as_try_if (t : TypeId) (v : Value) (w : World) : Sem.run Try.prog (Instr.typeAssert (.iface t v) 85 136 true) w = Sem.run Try.prog (if t = 136 then pure (.tuple #[v, .bool true]) else (do let z ← zeroValue 136; pure (.tuple #[z, .bool false]))) w := by kernel_rfl
theorem as_try_z (w : World) : Sem.run Try.prog (do let z ← zeroValue 136; pure (Value.tuple #[z, .bool false])) w = .ok (Value.tuple #[.agg #[.int .i64 0, .int .i64 0, .int .i64 0, .int .i64 0, .int .i64 0, .int .i64 0, .int .i64 0, .float .f64 0, .string ByteArray.empty, .slice none 0 0, .slice none 0 0, .slice none 0 0], .bool false]) w := by kernel_rfl
theorem as_try_yes (v : Value) (w : World) : Sem.run Try.prog (Instr.typeAssert (.iface 136 v) 85 136 true) w = .ok (.tuple #[v, .bool true]) w := by kernel_rfl
theorem as_try_no {t : TypeId} (h : t ≠ 136) (v : Value) (w : World) : Sem.run Try.prog (Instr.typeAssert (.iface t v) 85 136 true) w = .ok (.tuple #[.agg #[.int .i64 0, .int .i64 0, .int .i64 0, .int .i64 0, .int .i64 0, .int .i64 0, .int .i64 0, .float .f64 0, .string ByteArray.empty, .slice none 0 0, .slice none 0 0, .slice none 0 0], .bool false]) w := by
  rw [as_try_if, if_neg h]; exact as_try_z w
theorem as_throw_if (t : TypeId) (v : Value) (w : World) : Sem.run Try.prog (Instr.typeAssert (.iface t v) 85 137 true) w = Sem.run Try.prog (if t = 137 then pure (.tuple #[v, .bool true]) else (do let z ← zeroValue 137; pure (.tuple #[z, .bool false]))) w := by kernel_rfl
theorem as_throw_z (w : World) : Sem.run Try.prog (do let z ← zeroValue 137; pure (Value.tuple #[z, .bool false])) w = .ok (Value.tuple #[.agg #[.int .i64 0, .int .i64 0, .int .i64 0, .int .i64 0, .int .i64 0, .int .i64 0, .int .i64 0, .float .f64 0, .string ByteArray.empty, .slice none 0 0, .slice none 0 0, .slice none 0 0], .bool false]) w := by kernel_rfl
theorem as_throw_yes (v : Value) (w : World) : Sem.run Try.prog (Instr.typeAssert (.iface 137 v) 85 137 true) w = .ok (.tuple #[v, .bool true]) w := by kernel_rfl
theorem as_throw_no {t : TypeId} (h : t ≠ 137) (v : Value) (w : World) : Sem.run Try.prog (Instr.typeAssert (.iface t v) 85 137 true) w = .ok (.tuple #[.agg #[.int .i64 0, .int .i64 0, .int .i64 0, .int .i64 0, .int .i64 0, .int .i64 0, .int .i64 0, .float .f64 0, .string ByteArray.empty, .slice none 0 0, .slice none 0 0, .slice none 0 0], .bool false]) w := by
  rw [as_throw_if, if_neg h]; exact as_throw_z w
theorem as_bare_if (t : TypeId) (v : Value) (w : World) : Sem.run Try.prog (Instr.typeAssert (.iface t v) 85 139 true) w = Sem.run Try.prog (if t = 139 then pure (.tuple #[v, .bool true]) else (do let z ← zeroValue 139; pure (.tuple #[z, .bool false]))) w := by kernel_rfl
theorem as_bare_z (w : World) : Sem.run Try.prog (do let z ← zeroValue 139; pure (Value.tuple #[z, .bool false])) w = .ok (Value.tuple #[.agg #[.int .i64 0, .int .i64 0, .int .i64 0, .int .i64 0, .int .i64 0, .int .i64 0, .int .i64 0, .float .f64 0, .string ByteArray.empty, .slice none 0 0, .slice none 0 0, .slice none 0 0], .bool false]) w := by kernel_rfl
theorem as_bare_yes (v : Value) (w : World) : Sem.run Try.prog (Instr.typeAssert (.iface 139 v) 85 139 true) w = .ok (.tuple #[v, .bool true]) w := by kernel_rfl
theorem as_bare_no {t : TypeId} (h : t ≠ 139) (v : Value) (w : World) : Sem.run Try.prog (Instr.typeAssert (.iface t v) 85 139 true) w = .ok (.tuple #[.agg #[.int .i64 0, .int .i64 0, .int .i64 0, .int .i64 0, .int .i64 0, .int .i64 0, .int .i64 0, .float .f64 0, .string ByteArray.empty, .slice none 0 0, .slice none 0 0, .slice none 0 0], .bool false]) w := by
  rw [as_bare_if, if_neg h]; exact as_bare_z w
theorem as_int_if (t : TypeId) (v : Value) (w : World) : Sem.run Try.prog (Instr.typeAssert (.iface t v) 85 141 true) w = Sem.run Try.prog (if t = 141 then pure (.tuple #[v, .bool true]) else (do let z ← zeroValue 141; pure (.tuple #[z, .bool false]))) w := by kernel_rfl
theorem as_int_z (w : World) : Sem.run Try.prog (do let z ← zeroValue 141; pure (Value.tuple #[z, .bool false])) w = .ok (Value.tuple #[.agg #[.int .i64 0, .int .i64 0, .int .i64 0, .int .i64 0, .int .i64 0, .int .i64 0, .int .i64 0, .float .f64 0, .string ByteArray.empty, .slice none 0 0, .slice none 0 0, .slice none 0 0], .bool false]) w := by kernel_rfl
theorem as_int_yes (v : Value) (w : World) : Sem.run Try.prog (Instr.typeAssert (.iface 141 v) 85 141 true) w = .ok (.tuple #[v, .bool true]) w := by kernel_rfl
theorem as_int_no {t : TypeId} (h : t ≠ 141) (v : Value) (w : World) : Sem.run Try.prog (Instr.typeAssert (.iface t v) 85 141 true) w = .ok (.tuple #[.agg #[.int .i64 0, .int .i64 0, .int .i64 0, .int .i64 0, .int .i64 0, .int .i64 0, .int .i64 0, .float .f64 0, .string ByteArray.empty, .slice none 0 0, .slice none 0 0, .slice none 0 0], .bool false]) w := by
  rw [as_int_if, if_neg h]; exact as_int_z w
theorem as_flt_if (t : TypeId) (v : Value) (w : World) : Sem.run Try.prog (Instr.typeAssert (.iface t v) 85 142 true) w = Sem.run Try.prog (if t = 142 then pure (.tuple #[v, .bool true]) else (do let z ← zeroValue 142; pure (.tuple #[z, .bool false]))) w := by kernel_rfl
theorem as_flt_z (w : World) : Sem.run Try.prog (do let z ← zeroValue 142; pure (Value.tuple #[z, .bool false])) w = .ok (Value.tuple #[.agg #[.int .i64 0, .int .i64 0, .int .i64 0, .int .i64 0, .int .i64 0, .int .i64 0, .int .i64 0, .float .f64 0, .string ByteArray.empty, .slice none 0 0, .slice none 0 0, .slice none 0 0], .bool false]) w := by kernel_rfl
theorem as_flt_yes (v : Value) (w : World) : Sem.run Try.prog (Instr.typeAssert (.iface 142 v) 85 142 true) w = .ok (.tuple #[v, .bool true]) w := by kernel_rfl
theorem as_flt_no {t : TypeId} (h : t ≠ 142) (v : Value) (w : World) : Sem.run Try.prog (Instr.typeAssert (.iface t v) 85 142 true) w = .ok (.tuple #[.agg #[.int .i64 0, .int .i64 0, .int .i64 0, .int .i64 0, .int .i64 0, .int .i64 0, .int .i64 0, .float .f64 0, .string ByteArray.empty, .slice none 0 0, .slice none 0 0, .slice none 0 0], .bool false]) w := by
  rw [as_flt_if, if_neg h]; exact as_flt_z w
theorem as_str_if (t : TypeId) (v : Value) (w : World) : Sem.run Try.prog (Instr.typeAssert (.iface t v) 85 144 true) w = Sem.run Try.prog (if t = 144 then pure (.tuple #[v, .bool true]) else (do let z ← zeroValue 144; pure (.tuple #[z, .bool false]))) w := by kernel_rfl
theorem as_str_z (w : World) : Sem.run Try.prog (do let z ← zeroValue 144; pure (Value.tuple #[z, .bool false])) w = .ok (Value.tuple #[.agg #[.int .i64 0, .int .i64 0, .int .i64 0, .int .i64 0, .int .i64 0, .int .i64 0, .int .i64 0, .float .f64 0, .string ByteArray.empty, .slice none 0 0, .slice none 0 0, .slice none 0 0], .bool false]) w := by kernel_rfl
theorem as_str_yes (v : Value) (w : World) : Sem.run Try.prog (Instr.typeAssert (.iface 144 v) 85 144 true) w = .ok (.tuple #[v, .bool true]) w := by kernel_rfl
theorem as_str_no {t : TypeId} (h : t ≠ 144) (v : Value) (w : World) : Sem.run Try.prog (Instr.typeAssert (.iface t v) 85 144 true) w = .ok (.tuple #[.agg #[.int .i64 0, .int .i64 0, .int .i64 0, .int .i64 0, .int .i64 0, .int .i64 0, .int .i64 0, .float .f64 0, .string ByteArray.empty, .slice none 0 0, .slice none 0 0, .slice none 0 0], .bool false]) w := by
  rw [as_str_if, if_neg h]; exact as_str_z w
theorem as_name_if (t : TypeId) (v : Value) (w : World) : Sem.run Try.prog (Instr.typeAssert (.iface t v) 85 145 true) w = Sem.run Try.prog (if t = 145 then pure (.tuple #[v, .bool true]) else (do let z ← zeroValue 145; pure (.tuple #[z, .bool false]))) w := by kernel_rfl
theorem as_name_z (w : World) : Sem.run Try.prog (do let z ← zeroValue 145; pure (Value.tuple #[z, .bool false])) w = .ok (Value.tuple #[.agg #[.int .i64 0, .int .i64 0, .int .i64 0, .int .i64 0, .int .i64 0, .int .i64 0, .int .i64 0, .float .f64 0, .string ByteArray.empty, .slice none 0 0, .slice none 0 0, .slice none 0 0], .bool false]) w := by kernel_rfl
theorem as_name_yes (v : Value) (w : World) : Sem.run Try.prog (Instr.typeAssert (.iface 145 v) 85 145 true) w = .ok (.tuple #[v, .bool true]) w := by kernel_rfl
theorem as_name_no {t : TypeId} (h : t ≠ 145) (v : Value) (w : World) : Sem.run Try.prog (Instr.typeAssert (.iface t v) 85 145 true) w = .ok (.tuple #[.agg #[.int .i64 0, .int .i64 0, .int .i64 0, .int .i64 0, .int .i64 0, .int .i64 0, .int .i64 0, .float .f64 0, .string ByteArray.empty, .slice none 0 0, .slice none 0 0, .slice none 0 0], .bool false]) w := by
  rw [as_name_if, if_neg h]; exact as_name_z w
theorem as_rest_if (t : TypeId) (v : Value) (w : World) : Sem.run Try.prog (Instr.typeAssert (.iface t v) 85 140 true) w = Sem.run Try.prog (if t = 140 then pure (.tuple #[v, .bool true]) else (do let z ← zeroValue 140; pure (.tuple #[z, .bool false]))) w := by kernel_rfl
theorem as_rest_z (w : World) : Sem.run Try.prog (do let z ← zeroValue 140; pure (Value.tuple #[z, .bool false])) w = .ok (Value.tuple #[.agg #[.int .i64 0, .int .i64 0, .int .i64 0, .int .i64 0, .int .i64 0, .int .i64 0, .int .i64 0, .float .f64 0, .string ByteArray.empty, .slice none 0 0, .slice none 0 0, .slice none 0 0], .bool false]) w := by kernel_rfl
theorem as_rest_yes (v : Value) (w : World) : Sem.run Try.prog (Instr.typeAssert (.iface 140 v) 85 140 true) w = .ok (.tuple #[v, .bool true]) w := by kernel_rfl
theorem as_rest_no {t : TypeId} (h : t ≠ 140) (v : Value) (w : World) : Sem.run Try.prog (Instr.typeAssert (.iface t v) 85 140 true) w = .ok (.tuple #[.agg #[.int .i64 0, .int .i64 0, .int .i64 0, .int .i64 0, .int .i64 0, .int .i64 0, .int .i64 0, .float .f64 0, .string ByteArray.empty, .slice none 0 0, .slice none 0 0, .slice none 0 0], .bool false]) w := by
  rw [as_rest_if, if_neg h]; exact as_rest_z w
theorem as_either_if (t : TypeId) (v : Value) (w : World) : Sem.run Try.prog (Instr.typeAssert (.iface t v) 85 146 true) w = Sem.run Try.prog (if t = 146 then pure (.tuple #[v, .bool true]) else (do let z ← zeroValue 146; pure (.tuple #[z, .bool false]))) w := by kernel_rfl
theorem as_either_z (w : World) : Sem.run Try.prog (do let z ← zeroValue 146; pure (Value.tuple #[z, .bool false])) w = .ok (Value.tuple #[.agg #[.int .i64 0, .int .i64 0, .int .i64 0, .int .i64 0, .int .i64 0, .int .i64 0, .int .i64 0, .float .f64 0, .string ByteArray.empty, .slice none 0 0, .slice none 0 0, .slice none 0 0], .bool false]) w := by kernel_rfl
theorem as_either_yes (v : Value) (w : World) : Sem.run Try.prog (Instr.typeAssert (.iface 146 v) 85 146 true) w = .ok (.tuple #[v, .bool true]) w := by kernel_rfl
theorem as_either_no {t : TypeId} (h : t ≠ 146) (v : Value) (w : World) : Sem.run Try.prog (Instr.typeAssert (.iface t v) 85 146 true) w = .ok (.tuple #[.agg #[.int .i64 0, .int .i64 0, .int .i64 0, .int .i64 0, .int .i64 0, .int .i64 0, .int .i64 0, .float .f64 0, .string ByteArray.empty, .slice none 0 0, .slice none 0 0, .slice none 0 0], .bool false]) w := by
  rw [as_either_if, if_neg h]; exact as_either_z w
theorem as_unary_if (t : TypeId) (v : Value) (w : World) : Sem.run Try.prog (Instr.typeAssert (.iface t v) 85 147 true) w = Sem.run Try.prog (if t = 147 then pure (.tuple #[v, .bool true]) else (do let z ← zeroValue 147; pure (.tuple #[z, .bool false]))) w := by kernel_rfl
theorem as_unary_z (w : World) : Sem.run Try.prog (do let z ← zeroValue 147; pure (Value.tuple #[z, .bool false])) w = .ok (Value.tuple #[.agg #[.int .i64 0, .int .i64 0, .int .i64 0, .int .i64 0, .int .i64 0, .int .i64 0, .int .i64 0, .float .f64 0, .string ByteArray.empty, .slice none 0 0, .slice none 0 0, .slice none 0 0], .bool false]) w := by kernel_rfl
theorem as_unary_yes (v : Value) (w : World) : Sem.run Try.prog (Instr.typeAssert (.iface 147 v) 85 147 true) w = .ok (.tuple #[v, .bool true]) w := by kernel_rfl
theorem as_unary_no {t : TypeId} (h : t ≠ 147) (v : Value) (w : World) : Sem.run Try.prog (Instr.typeAssert (.iface t v) 85 147 true) w = .ok (.tuple #[.agg #[.int .i64 0, .int .i64 0, .int .i64 0, .int .i64 0, .int .i64 0, .int .i64 0, .int .i64 0, .float .f64 0, .string ByteArray.empty, .slice none 0 0, .slice none 0 0, .slice none 0 0], .bool false]) w := by
  rw [as_unary_if, if_neg h]; exact as_unary_z w
theorem as_binary_if (t : TypeId) (v : Value) (w : World) : Sem.run Try.prog (Instr.typeAssert (.iface t v) 85 148 true) w = Sem.run Try.prog (if t = 148 then pure (.tuple #[v, .bool true]) else (do let z ← zeroValue 148; pure (.tuple #[z, .bool false]))) w := by kernel_rfl
theorem as_binary_z (w : World) : Sem.run Try.prog (do let z ← zeroValue 148; pure (Value.tuple #[z, .bool false])) w = .ok (Value.tuple #[.agg #[.int .i64 0, .int .i64 0, .int .i64 0, .int .i64 0, .int .i64 0, .int .i64 0, .int .i64 0, .float .f64 0, .string ByteArray.empty, .slice none 0 0, .slice none 0 0, .slice none 0 0], .bool false]) w := by kernel_rfl
theorem as_binary_yes (v : Value) (w : World) : Sem.run Try.prog (Instr.typeAssert (.iface 148 v) 85 148 true) w = .ok (.tuple #[v, .bool true]) w := by kernel_rfl
theorem as_binary_no {t : TypeId} (h : t ≠ 148) (v : Value) (w : World) : Sem.run Try.prog (Instr.typeAssert (.iface t v) 85 148 true) w = .ok (.tuple #[.agg #[.int .i64 0, .int .i64 0, .int .i64 0, .int .i64 0, .int .i64 0, .int .i64 0, .int .i64 0, .float .f64 0, .string ByteArray.empty, .slice none 0 0, .slice none 0 0, .slice none 0 0], .bool false]) w := by
  rw [as_binary_if, if_neg h]; exact as_binary_z w
theorem as_index_if (t : TypeId) (v : Value) (w : World) : Sem.run Try.prog (Instr.typeAssert (.iface t v) 85 149 true) w = Sem.run Try.prog (if t = 149 then pure (.tuple #[v, .bool true]) else (do let z ← zeroValue 149; pure (.tuple #[z, .bool false]))) w := by kernel_rfl
theorem as_index_z (w : World) : Sem.run Try.prog (do let z ← zeroValue 149; pure (Value.tuple #[z, .bool false])) w = .ok (Value.tuple #[.agg #[.int .i64 0, .int .i64 0, .int .i64 0, .int .i64 0, .int .i64 0, .int .i64 0, .int .i64 0, .float .f64 0, .string ByteArray.empty, .slice none 0 0, .slice none 0 0, .slice none 0 0], .bool false]) w := by kernel_rfl
theorem as_index_yes (v : Value) (w : World) : Sem.run Try.prog (Instr.typeAssert (.iface 149 v) 85 149 true) w = .ok (.tuple #[v, .bool true]) w := by kernel_rfl
theorem as_index_no {t : TypeId} (h : t ≠ 149) (v : Value) (w : World) : Sem.run Try.prog (Instr.typeAssert (.iface t v) 85 149 true) w = .ok (.tuple #[.agg #[.int .i64 0, .int .i64 0, .int .i64 0, .int .i64 0, .int .i64 0, .int .i64 0, .int .i64 0, .float .f64 0, .string ByteArray.empty, .slice none 0 0, .slice none 0 0, .slice none 0 0], .bool false]) w := by
  rw [as_index_if, if_neg h]; exact as_index_z w
theorem as_field_if (t : TypeId) (v : Value) (w : World) : Sem.run Try.prog (Instr.typeAssert (.iface t v) 85 150 true) w = Sem.run Try.prog (if t = 150 then pure (.tuple #[v, .bool true]) else (do let z ← zeroValue 150; pure (.tuple #[z, .bool false]))) w := by kernel_rfl
theorem as_field_z (w : World) : Sem.run Try.prog (do let z ← zeroValue 150; pure (Value.tuple #[z, .bool false])) w = .ok (Value.tuple #[.agg #[.int .i64 0, .int .i64 0, .int .i64 0, .int .i64 0, .int .i64 0, .int .i64 0, .int .i64 0, .float .f64 0, .string ByteArray.empty, .slice none 0 0, .slice none 0 0, .slice none 0 0], .bool false]) w := by kernel_rfl
theorem as_field_yes (v : Value) (w : World) : Sem.run Try.prog (Instr.typeAssert (.iface 150 v) 85 150 true) w = .ok (.tuple #[v, .bool true]) w := by kernel_rfl
theorem as_field_no {t : TypeId} (h : t ≠ 150) (v : Value) (w : World) : Sem.run Try.prog (Instr.typeAssert (.iface t v) 85 150 true) w = .ok (.tuple #[.agg #[.int .i64 0, .int .i64 0, .int .i64 0, .int .i64 0, .int .i64 0, .int .i64 0, .int .i64 0, .float .f64 0, .string ByteArray.empty, .slice none 0 0, .slice none 0 0, .slice none 0 0], .bool false]) w := by
  rw [as_field_if, if_neg h]; exact as_field_z w
theorem as_call_if (t : TypeId) (v : Value) (w : World) : Sem.run Try.prog (Instr.typeAssert (.iface t v) 85 151 true) w = Sem.run Try.prog (if t = 151 then pure (.tuple #[v, .bool true]) else (do let z ← zeroValue 151; pure (.tuple #[z, .bool false]))) w := by kernel_rfl
theorem as_call_z (w : World) : Sem.run Try.prog (do let z ← zeroValue 151; pure (Value.tuple #[z, .bool false])) w = .ok (Value.tuple #[.agg #[.int .i64 0, .int .i64 0, .int .i64 0, .int .i64 0, .int .i64 0, .int .i64 0, .int .i64 0, .float .f64 0, .string ByteArray.empty, .slice none 0 0, .slice none 0 0, .slice none 0 0], .bool false]) w := by kernel_rfl
theorem as_call_yes (v : Value) (w : World) : Sem.run Try.prog (Instr.typeAssert (.iface 151 v) 85 151 true) w = .ok (.tuple #[v, .bool true]) w := by kernel_rfl
theorem as_call_no {t : TypeId} (h : t ≠ 151) (v : Value) (w : World) : Sem.run Try.prog (Instr.typeAssert (.iface t v) 85 151 true) w = .ok (.tuple #[.agg #[.int .i64 0, .int .i64 0, .int .i64 0, .int .i64 0, .int .i64 0, .int .i64 0, .int .i64 0, .float .f64 0, .string ByteArray.empty, .slice none 0 0, .slice none 0 0, .slice none 0 0], .bool false]) w := by
  rw [as_call_if, if_neg h]; exact as_call_z w
theorem as_table_if (t : TypeId) (v : Value) (w : World) : Sem.run Try.prog (Instr.typeAssert (.iface t v) 85 152 true) w = Sem.run Try.prog (if t = 152 then pure (.tuple #[v, .bool true]) else (do let z ← zeroValue 152; pure (.tuple #[z, .bool false]))) w := by kernel_rfl
theorem as_table_z (w : World) : Sem.run Try.prog (do let z ← zeroValue 152; pure (Value.tuple #[z, .bool false])) w = .ok (Value.tuple #[.agg #[.int .i64 0, .int .i64 0, .int .i64 0, .int .i64 0, .int .i64 0, .int .i64 0, .int .i64 0, .float .f64 0, .string ByteArray.empty, .slice none 0 0, .slice none 0 0, .slice none 0 0], .bool false]) w := by kernel_rfl
theorem as_table_yes (v : Value) (w : World) : Sem.run Try.prog (Instr.typeAssert (.iface 152 v) 85 152 true) w = .ok (.tuple #[v, .bool true]) w := by kernel_rfl
theorem as_table_no {t : TypeId} (h : t ≠ 152) (v : Value) (w : World) : Sem.run Try.prog (Instr.typeAssert (.iface t v) 85 152 true) w = .ok (.tuple #[.agg #[.int .i64 0, .int .i64 0, .int .i64 0, .int .i64 0, .int .i64 0, .int .i64 0, .int .i64 0, .float .f64 0, .string ByteArray.empty, .slice none 0 0, .slice none 0 0, .slice none 0 0], .bool false]) w := by
  rw [as_table_if, if_neg h]; exact as_table_z w
theorem as_fn_if (t : TypeId) (v : Value) (w : World) : Sem.run Try.prog (Instr.typeAssert (.iface t v) 85 153 true) w = Sem.run Try.prog (if t = 153 then pure (.tuple #[v, .bool true]) else (do let z ← zeroValue 153; pure (.tuple #[z, .bool false]))) w := by kernel_rfl
theorem as_fn_z (w : World) : Sem.run Try.prog (do let z ← zeroValue 153; pure (Value.tuple #[z, .bool false])) w = .ok (Value.tuple #[.agg #[.int .i64 0, .int .i64 0, .int .i64 0, .int .i64 0, .int .i64 0, .int .i64 0, .int .i64 0, .float .f64 0, .string ByteArray.empty, .slice none 0 0, .slice none 0 0, .slice none 0 0], .bool false]) w := by kernel_rfl
theorem as_fn_yes (v : Value) (w : World) : Sem.run Try.prog (Instr.typeAssert (.iface 153 v) 85 153 true) w = .ok (.tuple #[v, .bool true]) w := by kernel_rfl
theorem as_fn_no {t : TypeId} (h : t ≠ 153) (v : Value) (w : World) : Sem.run Try.prog (Instr.typeAssert (.iface t v) 85 153 true) w = .ok (.tuple #[.agg #[.int .i64 0, .int .i64 0, .int .i64 0, .int .i64 0, .int .i64 0, .int .i64 0, .int .i64 0, .float .f64 0, .string ByteArray.empty, .slice none 0 0, .slice none 0 0, .slice none 0 0], .bool false]) w := by
  rw [as_fn_if, if_neg h]; exact as_fn_z w
theorem as_one_if (t : TypeId) (v : Value) (w : World) : Sem.run Try.prog (Instr.typeAssert (.iface t v) 85 155 true) w = Sem.run Try.prog (if t = 155 then pure (.tuple #[v, .bool true]) else (do let z ← zeroValue 155; pure (.tuple #[z, .bool false]))) w := by kernel_rfl
theorem as_one_z (w : World) : Sem.run Try.prog (do let z ← zeroValue 155; pure (Value.tuple #[z, .bool false])) w = .ok (Value.tuple #[.agg #[.int .i64 0, .int .i64 0, .int .i64 0, .int .i64 0, .int .i64 0, .int .i64 0, .int .i64 0, .float .f64 0, .string ByteArray.empty, .slice none 0 0, .slice none 0 0, .slice none 0 0], .bool false]) w := by kernel_rfl
theorem as_one_yes (v : Value) (w : World) : Sem.run Try.prog (Instr.typeAssert (.iface 155 v) 85 155 true) w = .ok (.tuple #[v, .bool true]) w := by kernel_rfl
theorem as_one_no {t : TypeId} (h : t ≠ 155) (v : Value) (w : World) : Sem.run Try.prog (Instr.typeAssert (.iface t v) 85 155 true) w = .ok (.tuple #[.agg #[.int .i64 0, .int .i64 0, .int .i64 0, .int .i64 0, .int .i64 0, .int .i64 0, .int .i64 0, .float .f64 0, .string ByteArray.empty, .slice none 0 0, .slice none 0 0, .slice none 0 0], .bool false]) w := by
  rw [as_one_if, if_neg h]; exact as_one_z w
theorem as_item_if (t : TypeId) (v : Value) (w : World) : Sem.run Try.prog (Instr.typeAssert (.iface t v) 85 158 true) w = Sem.run Try.prog (if t = 158 then pure (.tuple #[v, .bool true]) else (do let z ← zeroValue 158; pure (.tuple #[z, .bool false]))) w := by kernel_rfl
theorem as_item_z (w : World) : Sem.run Try.prog (do let z ← zeroValue 158; pure (Value.tuple #[z, .bool false])) w = .ok (Value.tuple #[.agg #[.int .i64 0, .int .i64 0, .int .i64 0, .int .i64 0, .int .i64 0, .int .i64 0, .int .i64 0, .float .f64 0, .string ByteArray.empty, .slice none 0 0, .slice none 0 0, .slice none 0 0], .bool false]) w := by kernel_rfl
theorem as_item_yes (v : Value) (w : World) : Sem.run Try.prog (Instr.typeAssert (.iface 158 v) 85 158 true) w = .ok (.tuple #[v, .bool true]) w := by kernel_rfl
theorem as_item_no {t : TypeId} (h : t ≠ 158) (v : Value) (w : World) : Sem.run Try.prog (Instr.typeAssert (.iface t v) 85 158 true) w = .ok (.tuple #[.agg #[.int .i64 0, .int .i64 0, .int .i64 0, .int .i64 0, .int .i64 0, .int .i64 0, .int .i64 0, .float .f64 0, .string ByteArray.empty, .slice none 0 0, .slice none 0 0, .slice none 0 0], .bool false]) w := by
  rw [as_item_if, if_neg h]; exact as_item_z w
theorem as_pair_if (t : TypeId) (v : Value) (w : World) : Sem.run Try.prog (Instr.typeAssert (.iface t v) 85 159 true) w = Sem.run Try.prog (if t = 159 then pure (.tuple #[v, .bool true]) else (do let z ← zeroValue 159; pure (.tuple #[z, .bool false]))) w := by kernel_rfl
theorem as_pair_z (w : World) : Sem.run Try.prog (do let z ← zeroValue 159; pure (Value.tuple #[z, .bool false])) w = .ok (Value.tuple #[.agg #[.int .i64 0, .int .i64 0, .int .i64 0, .int .i64 0, .int .i64 0, .int .i64 0, .int .i64 0, .float .f64 0, .string ByteArray.empty, .slice none 0 0, .slice none 0 0, .slice none 0 0], .bool false]) w := by kernel_rfl
theorem as_pair_yes (v : Value) (w : World) : Sem.run Try.prog (Instr.typeAssert (.iface 159 v) 85 159 true) w = .ok (.tuple #[v, .bool true]) w := by kernel_rfl
theorem as_pair_no {t : TypeId} (h : t ≠ 159) (v : Value) (w : World) : Sem.run Try.prog (Instr.typeAssert (.iface t v) 85 159 true) w = .ok (.tuple #[.agg #[.int .i64 0, .int .i64 0, .int .i64 0, .int .i64 0, .int .i64 0, .int .i64 0, .int .i64 0, .float .f64 0, .string ByteArray.empty, .slice none 0 0, .slice none 0 0, .slice none 0 0], .bool false]) w := by
  rw [as_pair_if, if_neg h]; exact as_pair_z w
theorem as_named_if (t : TypeId) (v : Value) (w : World) : Sem.run Try.prog (Instr.typeAssert (.iface t v) 85 160 true) w = Sem.run Try.prog (if t = 160 then pure (.tuple #[v, .bool true]) else (do let z ← zeroValue 160; pure (.tuple #[z, .bool false]))) w := by kernel_rfl
theorem as_named_z (w : World) : Sem.run Try.prog (do let z ← zeroValue 160; pure (Value.tuple #[z, .bool false])) w = .ok (Value.tuple #[.agg #[.int .i64 0, .int .i64 0, .int .i64 0, .int .i64 0, .int .i64 0, .int .i64 0, .int .i64 0, .float .f64 0, .string ByteArray.empty, .slice none 0 0, .slice none 0 0, .slice none 0 0], .bool false]) w := by kernel_rfl
theorem as_named_yes (v : Value) (w : World) : Sem.run Try.prog (Instr.typeAssert (.iface 160 v) 85 160 true) w = .ok (.tuple #[v, .bool true]) w := by kernel_rfl
theorem as_named_no {t : TypeId} (h : t ≠ 160) (v : Value) (w : World) : Sem.run Try.prog (Instr.typeAssert (.iface t v) 85 160 true) w = .ok (.tuple #[.agg #[.int .i64 0, .int .i64 0, .int .i64 0, .int .i64 0, .int .i64 0, .int .i64 0, .int .i64 0, .float .f64 0, .string ByteArray.empty, .slice none 0 0, .slice none 0 0, .slice none 0 0], .bool false]) w := by
  rw [as_named_if, if_neg h]; exact as_named_z w
def famK (k : Int) : FuncId :=
  if k = 1 then 153 else
  if k = 2 then 153 else
  if k = 3 then 153 else
  if k = 4 then 153 else
  if k = 5 then 153 else
  if k = 6 then 153 else
  if k = 16 then 153 else
  if k = 7 then 153 else
  if k = 8 then 153 else
  if k = 9 then 153 else
  if k = 10 then 153 else
  if k = 11 then 153 else
  if k = 12 then 153 else
  if k = 13 then 153 else
  if k = 14 then 153 else
  if k = 15 then 153 else
  if k = 20 then 155 else
  if k = 21 then 155 else
  if k = 22 then 155 else
  if k = 23 then 155 else
  if k = 24 then 155 else
  if k = 25 then 155 else
  if k = 26 then 155 else
  if k = 27 then 155 else
  if k = 28 then 155 else
  if k = 29 then 155 else
  if k = 30 then 155 else
  if k = 31 then 155 else
  if k = 32 then 155 else
  if k = 33 then 155 else
  if k = 34 then 155 else
  if k = 35 then 155 else
  if k = 36 then 155 else
  if k = 37 then 155 else
  if k = 40 then 156 else
  if k = 41 then 156 else
  if k = 42 then 156 else
  150
def famFn (d : PD) : FuncId := if slimP d then famK d.kind else 150
def leastK (k : Int) : FuncId :=
  if k = 1 then 154 else
  if k = 2 then 154 else
  if k = 3 then 154 else
  if k = 4 then 154 else
  if k = 5 then 154 else
  if k = 6 then 154 else
  if k = 16 then 154 else
  if k = 7 then 154 else
  if k = 8 then 154 else
  if k = 9 then 154 else
  if k = 10 then 154 else
  if k = 11 then 154 else
  if k = 12 then 154 else
  if k = 13 then 154 else
  if k = 14 then 154 else
  if k = 15 then 154 else
  if k = 20 then 151 else
  if k = 21 then 151 else
  if k = 22 then 151 else
  if k = 23 then 151 else
  if k = 24 then 151 else
  if k = 25 then 151 else
  if k = 26 then 151 else
  if k = 27 then 151 else
  if k = 28 then 151 else
  if k = 29 then 151 else
  if k = 30 then 151 else
  if k = 31 then 151 else
  if k = 32 then 151 else
  if k = 33 then 151 else
  if k = 34 then 151 else
  if k = 35 then 151 else
  if k = 36 then 151 else
  if k = 37 then 151 else
  if k = 40 then 151 else
  if k = 41 then 151 else
  if k = 42 then 151 else
  151
def leastFn (d : PD) : FuncId := if slimP d then leastK d.kind else 151
theorem strange_fns {k : Int} (h : k ≠ 1 ∧ k ≠ 2 ∧ k ≠ 3 ∧ k ≠ 4 ∧ k ≠ 5 ∧ k ≠ 6 ∧ k ≠ 16 ∧ k ≠ 7 ∧ k ≠ 8 ∧ k ≠ 9 ∧ k ≠ 10 ∧ k ≠ 11 ∧ k ≠ 12 ∧ k ≠ 13 ∧ k ≠ 14 ∧ k ≠ 15 ∧ k ≠ 20 ∧ k ≠ 21 ∧ k ≠ 22 ∧ k ≠ 23 ∧ k ≠ 24 ∧ k ≠ 25 ∧ k ≠ 26 ∧ k ≠ 27 ∧ k ≠ 28 ∧ k ≠ 29 ∧ k ≠ 30 ∧ k ≠ 31 ∧ k ≠ 32 ∧ k ≠ 33 ∧ k ≠ 34 ∧ k ≠ 35 ∧ k ≠ 36 ∧ k ≠ 37 ∧ k ≠ 40 ∧ k ≠ 41 ∧ k ≠ 42) : famK k = 150 ∧ leastK k = 151 := by
  obtain ⟨e1, e2, e3, e4, e5, e6, e16, e7, e8, e9, e10, e11, e12, e13, e14, e15, e20, e21, e22, e23, e24, e25, e26, e27, e28, e29, e30, e31, e32, e33, e34, e35, e36, e37, e40, e41, e42⟩ := h
  constructor
  · unfold famK; rw [if_neg e1, if_neg e2, if_neg e3, if_neg e4, if_neg e5, if_neg e6, if_neg e16, if_neg e7, if_neg e8, if_neg e9, if_neg e10, if_neg e11, if_neg e12, if_neg e13, if_neg e14, if_neg e15, if_neg e20, if_neg e21, if_neg e22, if_neg e23, if_neg e24, if_neg e25, if_neg e26, if_neg e27, if_neg e28, if_neg e29, if_neg e30, if_neg e31, if_neg e32, if_neg e33, if_neg e34, if_neg e35, if_neg e36, if_neg e37, if_neg e40, if_neg e41, if_neg e42]
  · unfold leastK; rw [if_neg e1, if_neg e2, if_neg e3, if_neg e4, if_neg e5, if_neg e6, if_neg e16, if_neg e7, if_neg e8, if_neg e9, if_neg e10, if_neg e11, if_neg e12, if_neg e13, if_neg e14, if_neg e15, if_neg e20, if_neg e21, if_neg e22, if_neg e23, if_neg e24, if_neg e25, if_neg e26, if_neg e27, if_neg e28, if_neg e29, if_neg e30, if_neg e31, if_neg e32, if_neg e33, if_neg e34, if_neg e35, if_neg e36, if_neg e37, if_neg e40, if_neg e41, if_neg e42]
theorem meth_top (d : PD) (v0 v1 v2 v3 v4 v5 v6 v7 v8 v9 v10 v11 : Value) (w : World) : Sem.run Try.prog (method 339 (ptT d) (.agg #[v0, v1, v2, v3, v4, v5, v6, v7, v8, v9, v10, v11]) "loop.example/reed/impl.top") w = .ok (152, .agg #[v0, v1, v2, v3, v4, v5, v6, v7, v8, v9, v10, v11]) w := by
  unfold ptT
  by_cases h : slimP d
  · rw [if_pos h]
    rcases kinds_all d.kind with h | h | h | h | h | h | h | h | h | h | h | h | h | h | h | h | h | h | h | h | h | h | h | h | h | h | h | h | h | h | h | h | h | h | h | h | h | ⟨h, _, h2⟩
    · rw [h]; exact meth_top_block v0 v1 v2 v3 v4 v5 v6 v7 v8 v9 v10 v11 w
    · rw [h]; exact meth_top_let v0 v1 v2 v3 v4 v5 v6 v7 v8 v9 v10 v11 w
    · rw [h]; exact meth_top_const v0 v1 v2 v3 v4 v5 v6 v7 v8 v9 v10 v11 w
    · rw [h]; exact meth_top_ownFn v0 v1 v2 v3 v4 v5 v6 v7 v8 v9 v10 v11 w
    · rw [h]; exact meth_top_set v0 v1 v2 v3 v4 v5 v6 v7 v8 v9 v10 v11 w
    · rw [h]; exact meth_top_do v0 v1 v2 v3 v4 v5 v6 v7 v8 v9 v10 v11 w
    · rw [h]; exact meth_top_do v0 v1 v2 v3 v4 v5 v6 v7 v8 v9 v10 v11 w
    · rw [h]; exact meth_top_if v0 v1 v2 v3 v4 v5 v6 v7 v8 v9 v10 v11 w
    · rw [h]; exact meth_top_while v0 v1 v2 v3 v4 v5 v6 v7 v8 v9 v10 v11 w
    · rw [h]; exact meth_top_for v0 v1 v2 v3 v4 v5 v6 v7 v8 v9 v10 v11 w
    · rw [h]; exact meth_top_each v0 v1 v2 v3 v4 v5 v6 v7 v8 v9 v10 v11 w
    · rw [h]; exact meth_top_jump v0 v1 v2 v3 v4 v5 v6 v7 v8 v9 v10 v11 w
    · rw [h]; exact meth_top_jump v0 v1 v2 v3 v4 v5 v6 v7 v8 v9 v10 v11 w
    · rw [h]; exact meth_top_return v0 v1 v2 v3 v4 v5 v6 v7 v8 v9 v10 v11 w
    · rw [h]; exact meth_top_try v0 v1 v2 v3 v4 v5 v6 v7 v8 v9 v10 v11 w
    · rw [h]; exact meth_top_throw v0 v1 v2 v3 v4 v5 v6 v7 v8 v9 v10 v11 w
    · rw [h]; exact meth_top_bare v0 v1 v2 v3 v4 v5 v6 v7 v8 v9 v10 v11 w
    · rw [h]; exact meth_top_bare v0 v1 v2 v3 v4 v5 v6 v7 v8 v9 v10 v11 w
    · rw [h]; exact meth_top_bare v0 v1 v2 v3 v4 v5 v6 v7 v8 v9 v10 v11 w
    · rw [h]; exact meth_top_int v0 v1 v2 v3 v4 v5 v6 v7 v8 v9 v10 v11 w
    · rw [h]; exact meth_top_flt v0 v1 v2 v3 v4 v5 v6 v7 v8 v9 v10 v11 w
    · rw [h]; exact meth_top_str v0 v1 v2 v3 v4 v5 v6 v7 v8 v9 v10 v11 w
    · rw [h]; exact meth_top_name v0 v1 v2 v3 v4 v5 v6 v7 v8 v9 v10 v11 w
    · rw [h]; exact meth_top_rest v0 v1 v2 v3 v4 v5 v6 v7 v8 v9 v10 v11 w
    · rw [h]; exact meth_top_either v0 v1 v2 v3 v4 v5 v6 v7 v8 v9 v10 v11 w
    · rw [h]; exact meth_top_either v0 v1 v2 v3 v4 v5 v6 v7 v8 v9 v10 v11 w
    · rw [h]; exact meth_top_unary v0 v1 v2 v3 v4 v5 v6 v7 v8 v9 v10 v11 w
    · rw [h]; exact meth_top_binary v0 v1 v2 v3 v4 v5 v6 v7 v8 v9 v10 v11 w
    · rw [h]; exact meth_top_index v0 v1 v2 v3 v4 v5 v6 v7 v8 v9 v10 v11 w
    · rw [h]; exact meth_top_field v0 v1 v2 v3 v4 v5 v6 v7 v8 v9 v10 v11 w
    · rw [h]; exact meth_top_call v0 v1 v2 v3 v4 v5 v6 v7 v8 v9 v10 v11 w
    · rw [h]; exact meth_top_table v0 v1 v2 v3 v4 v5 v6 v7 v8 v9 v10 v11 w
    · rw [h]; exact meth_top_fn v0 v1 v2 v3 v4 v5 v6 v7 v8 v9 v10 v11 w
    · rw [h]; exact meth_top_one v0 v1 v2 v3 v4 v5 v6 v7 v8 v9 v10 v11 w
    · rw [h]; exact meth_top_item v0 v1 v2 v3 v4 v5 v6 v7 v8 v9 v10 v11 w
    · rw [h]; exact meth_top_pair v0 v1 v2 v3 v4 v5 v6 v7 v8 v9 v10 v11 w
    · rw [h]; exact meth_top_named v0 v1 v2 v3 v4 v5 v6 v7 v8 v9 v10 v11 w
    · rw [h]; exact meth_top_strange v0 v1 v2 v3 v4 v5 v6 v7 v8 v9 v10 v11 w
  · rw [if_neg h]; exact meth_top_strange v0 v1 v2 v3 v4 v5 v6 v7 v8 v9 v10 v11 w
theorem meth_family (d : PD) (v0 v1 v2 v3 v4 v5 v6 v7 v8 v9 v10 v11 : Value) (w : World) : Sem.run Try.prog (method 339 (ptT d) (.agg #[v0, v1, v2, v3, v4, v5, v6, v7, v8, v9, v10, v11]) "loop.example/reed/impl.family") w = .ok (famFn d, .agg #[v0, v1, v2, v3, v4, v5, v6, v7, v8, v9, v10, v11]) w := by
  unfold ptT famFn
  by_cases h : slimP d
  · rw [if_pos h, if_pos h]
    rcases kinds_all d.kind with h | h | h | h | h | h | h | h | h | h | h | h | h | h | h | h | h | h | h | h | h | h | h | h | h | h | h | h | h | h | h | h | h | h | h | h | h | ⟨h, _, h2⟩
    · rw [h]; exact meth_family_block v0 v1 v2 v3 v4 v5 v6 v7 v8 v9 v10 v11 w
    · rw [h]; exact meth_family_let v0 v1 v2 v3 v4 v5 v6 v7 v8 v9 v10 v11 w
    · rw [h]; exact meth_family_const v0 v1 v2 v3 v4 v5 v6 v7 v8 v9 v10 v11 w
    · rw [h]; exact meth_family_ownFn v0 v1 v2 v3 v4 v5 v6 v7 v8 v9 v10 v11 w
    · rw [h]; exact meth_family_set v0 v1 v2 v3 v4 v5 v6 v7 v8 v9 v10 v11 w
    · rw [h]; exact meth_family_do v0 v1 v2 v3 v4 v5 v6 v7 v8 v9 v10 v11 w
    · rw [h]; exact meth_family_do v0 v1 v2 v3 v4 v5 v6 v7 v8 v9 v10 v11 w
    · rw [h]; exact meth_family_if v0 v1 v2 v3 v4 v5 v6 v7 v8 v9 v10 v11 w
    · rw [h]; exact meth_family_while v0 v1 v2 v3 v4 v5 v6 v7 v8 v9 v10 v11 w
    · rw [h]; exact meth_family_for v0 v1 v2 v3 v4 v5 v6 v7 v8 v9 v10 v11 w
    · rw [h]; exact meth_family_each v0 v1 v2 v3 v4 v5 v6 v7 v8 v9 v10 v11 w
    · rw [h]; exact meth_family_jump v0 v1 v2 v3 v4 v5 v6 v7 v8 v9 v10 v11 w
    · rw [h]; exact meth_family_jump v0 v1 v2 v3 v4 v5 v6 v7 v8 v9 v10 v11 w
    · rw [h]; exact meth_family_return v0 v1 v2 v3 v4 v5 v6 v7 v8 v9 v10 v11 w
    · rw [h]; exact meth_family_try v0 v1 v2 v3 v4 v5 v6 v7 v8 v9 v10 v11 w
    · rw [h]; exact meth_family_throw v0 v1 v2 v3 v4 v5 v6 v7 v8 v9 v10 v11 w
    · rw [h]; exact meth_family_bare v0 v1 v2 v3 v4 v5 v6 v7 v8 v9 v10 v11 w
    · rw [h]; exact meth_family_bare v0 v1 v2 v3 v4 v5 v6 v7 v8 v9 v10 v11 w
    · rw [h]; exact meth_family_bare v0 v1 v2 v3 v4 v5 v6 v7 v8 v9 v10 v11 w
    · rw [h]; exact meth_family_int v0 v1 v2 v3 v4 v5 v6 v7 v8 v9 v10 v11 w
    · rw [h]; exact meth_family_flt v0 v1 v2 v3 v4 v5 v6 v7 v8 v9 v10 v11 w
    · rw [h]; exact meth_family_str v0 v1 v2 v3 v4 v5 v6 v7 v8 v9 v10 v11 w
    · rw [h]; exact meth_family_name v0 v1 v2 v3 v4 v5 v6 v7 v8 v9 v10 v11 w
    · rw [h]; exact meth_family_rest v0 v1 v2 v3 v4 v5 v6 v7 v8 v9 v10 v11 w
    · rw [h]; exact meth_family_either v0 v1 v2 v3 v4 v5 v6 v7 v8 v9 v10 v11 w
    · rw [h]; exact meth_family_either v0 v1 v2 v3 v4 v5 v6 v7 v8 v9 v10 v11 w
    · rw [h]; exact meth_family_unary v0 v1 v2 v3 v4 v5 v6 v7 v8 v9 v10 v11 w
    · rw [h]; exact meth_family_binary v0 v1 v2 v3 v4 v5 v6 v7 v8 v9 v10 v11 w
    · rw [h]; exact meth_family_index v0 v1 v2 v3 v4 v5 v6 v7 v8 v9 v10 v11 w
    · rw [h]; exact meth_family_field v0 v1 v2 v3 v4 v5 v6 v7 v8 v9 v10 v11 w
    · rw [h]; exact meth_family_call v0 v1 v2 v3 v4 v5 v6 v7 v8 v9 v10 v11 w
    · rw [h]; exact meth_family_table v0 v1 v2 v3 v4 v5 v6 v7 v8 v9 v10 v11 w
    · rw [h]; exact meth_family_fn v0 v1 v2 v3 v4 v5 v6 v7 v8 v9 v10 v11 w
    · rw [h]; exact meth_family_one v0 v1 v2 v3 v4 v5 v6 v7 v8 v9 v10 v11 w
    · rw [h]; exact meth_family_item v0 v1 v2 v3 v4 v5 v6 v7 v8 v9 v10 v11 w
    · rw [h]; exact meth_family_pair v0 v1 v2 v3 v4 v5 v6 v7 v8 v9 v10 v11 w
    · rw [h]; exact meth_family_named v0 v1 v2 v3 v4 v5 v6 v7 v8 v9 v10 v11 w
    · rw [h, (strange_fns h2).1]; exact meth_family_strange v0 v1 v2 v3 v4 v5 v6 v7 v8 v9 v10 v11 w
  · rw [if_neg h, if_neg h]; exact meth_family_strange v0 v1 v2 v3 v4 v5 v6 v7 v8 v9 v10 v11 w
theorem meth_leastLine (d : PD) (v0 v1 v2 v3 v4 v5 v6 v7 v8 v9 v10 v11 : Value) (w : World) : Sem.run Try.prog (method 339 (ptT d) (.agg #[v0, v1, v2, v3, v4, v5, v6, v7, v8, v9, v10, v11]) "loop.example/reed/impl.leastLine") w = .ok (leastFn d, .agg #[v0, v1, v2, v3, v4, v5, v6, v7, v8, v9, v10, v11]) w := by
  unfold ptT leastFn
  by_cases h : slimP d
  · rw [if_pos h, if_pos h]
    rcases kinds_all d.kind with h | h | h | h | h | h | h | h | h | h | h | h | h | h | h | h | h | h | h | h | h | h | h | h | h | h | h | h | h | h | h | h | h | h | h | h | h | ⟨h, _, h2⟩
    · rw [h]; exact meth_leastLine_block v0 v1 v2 v3 v4 v5 v6 v7 v8 v9 v10 v11 w
    · rw [h]; exact meth_leastLine_let v0 v1 v2 v3 v4 v5 v6 v7 v8 v9 v10 v11 w
    · rw [h]; exact meth_leastLine_const v0 v1 v2 v3 v4 v5 v6 v7 v8 v9 v10 v11 w
    · rw [h]; exact meth_leastLine_ownFn v0 v1 v2 v3 v4 v5 v6 v7 v8 v9 v10 v11 w
    · rw [h]; exact meth_leastLine_set v0 v1 v2 v3 v4 v5 v6 v7 v8 v9 v10 v11 w
    · rw [h]; exact meth_leastLine_do v0 v1 v2 v3 v4 v5 v6 v7 v8 v9 v10 v11 w
    · rw [h]; exact meth_leastLine_do v0 v1 v2 v3 v4 v5 v6 v7 v8 v9 v10 v11 w
    · rw [h]; exact meth_leastLine_if v0 v1 v2 v3 v4 v5 v6 v7 v8 v9 v10 v11 w
    · rw [h]; exact meth_leastLine_while v0 v1 v2 v3 v4 v5 v6 v7 v8 v9 v10 v11 w
    · rw [h]; exact meth_leastLine_for v0 v1 v2 v3 v4 v5 v6 v7 v8 v9 v10 v11 w
    · rw [h]; exact meth_leastLine_each v0 v1 v2 v3 v4 v5 v6 v7 v8 v9 v10 v11 w
    · rw [h]; exact meth_leastLine_jump v0 v1 v2 v3 v4 v5 v6 v7 v8 v9 v10 v11 w
    · rw [h]; exact meth_leastLine_jump v0 v1 v2 v3 v4 v5 v6 v7 v8 v9 v10 v11 w
    · rw [h]; exact meth_leastLine_return v0 v1 v2 v3 v4 v5 v6 v7 v8 v9 v10 v11 w
    · rw [h]; exact meth_leastLine_try v0 v1 v2 v3 v4 v5 v6 v7 v8 v9 v10 v11 w
    · rw [h]; exact meth_leastLine_throw v0 v1 v2 v3 v4 v5 v6 v7 v8 v9 v10 v11 w
    · rw [h]; exact meth_leastLine_bare v0 v1 v2 v3 v4 v5 v6 v7 v8 v9 v10 v11 w
    · rw [h]; exact meth_leastLine_bare v0 v1 v2 v3 v4 v5 v6 v7 v8 v9 v10 v11 w
    · rw [h]; exact meth_leastLine_bare v0 v1 v2 v3 v4 v5 v6 v7 v8 v9 v10 v11 w
    · rw [h]; exact meth_leastLine_int v0 v1 v2 v3 v4 v5 v6 v7 v8 v9 v10 v11 w
    · rw [h]; exact meth_leastLine_flt v0 v1 v2 v3 v4 v5 v6 v7 v8 v9 v10 v11 w
    · rw [h]; exact meth_leastLine_str v0 v1 v2 v3 v4 v5 v6 v7 v8 v9 v10 v11 w
    · rw [h]; exact meth_leastLine_name v0 v1 v2 v3 v4 v5 v6 v7 v8 v9 v10 v11 w
    · rw [h]; exact meth_leastLine_rest v0 v1 v2 v3 v4 v5 v6 v7 v8 v9 v10 v11 w
    · rw [h]; exact meth_leastLine_either v0 v1 v2 v3 v4 v5 v6 v7 v8 v9 v10 v11 w
    · rw [h]; exact meth_leastLine_either v0 v1 v2 v3 v4 v5 v6 v7 v8 v9 v10 v11 w
    · rw [h]; exact meth_leastLine_unary v0 v1 v2 v3 v4 v5 v6 v7 v8 v9 v10 v11 w
    · rw [h]; exact meth_leastLine_binary v0 v1 v2 v3 v4 v5 v6 v7 v8 v9 v10 v11 w
    · rw [h]; exact meth_leastLine_index v0 v1 v2 v3 v4 v5 v6 v7 v8 v9 v10 v11 w
    · rw [h]; exact meth_leastLine_field v0 v1 v2 v3 v4 v5 v6 v7 v8 v9 v10 v11 w
    · rw [h]; exact meth_leastLine_call v0 v1 v2 v3 v4 v5 v6 v7 v8 v9 v10 v11 w
    · rw [h]; exact meth_leastLine_table v0 v1 v2 v3 v4 v5 v6 v7 v8 v9 v10 v11 w
    · rw [h]; exact meth_leastLine_fn v0 v1 v2 v3 v4 v5 v6 v7 v8 v9 v10 v11 w
    · rw [h]; exact meth_leastLine_one v0 v1 v2 v3 v4 v5 v6 v7 v8 v9 v10 v11 w
    · rw [h]; exact meth_leastLine_item v0 v1 v2 v3 v4 v5 v6 v7 v8 v9 v10 v11 w
    · rw [h]; exact meth_leastLine_pair v0 v1 v2 v3 v4 v5 v6 v7 v8 v9 v10 v11 w
    · rw [h]; exact meth_leastLine_named v0 v1 v2 v3 v4 v5 v6 v7 v8 v9 v10 v11 w
    · rw [h, (strange_fns h2).2]; exact meth_leastLine_strange v0 v1 v2 v3 v4 v5 v6 v7 v8 v9 v10 v11 w
  · rw [if_neg h, if_neg h]; exact meth_leastLine_strange v0 v1 v2 v3 v4 v5 v6 v7 v8 v9 v10 v11 w
end Go.Proofs.Ytfcaehefahakdab
