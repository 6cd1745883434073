import Derived.Test.YtnokgdgikdgaeaaP01
namespace Go.Proofs.Ytnokgdgikdgaeaa
open Go.RowKit

theorem meth_top_block (v0 v1 v2 v3 v4 v5 v6 v7 v8 v9 v10 v11 : Value) (w : World) : Sem.run Try.prog (method 247 81 (.agg #[v0, v1, v2, v3, v4, v5, v6, v7, v8, v9, v10, v11]) "loop.example/reed/impl.top") w = .ok (79, .agg #[v0, v1, v2, v3, v4, v5, v6, v7, v8, v9, v10, v11]) w := by kernel_rfl
theorem meth_family_block (v0 v1 v2 v3 v4 v5 v6 v7 v8 v9 v10 v11 : Value) (w : World) : Sem.run Try.prog (method 247 81 (.agg #[v0, v1, v2, v3, v4, v5, v6, v7, v8, v9, v10, v11]) "loop.example/reed/impl.family") w = .ok (80, .agg #[v0, v1, v2, v3, v4, v5, v6, v7, v8, v9, v10, v11]) w := by kernel_rfl
theorem meth_leastLine_block (v0 v1 v2 v3 v4 v5 v6 v7 v8 v9 v10 v11 : Value) (w : World) : Sem.run Try.prog (method 247 81 (.agg #[v0, v1, v2, v3, v4, v5, v6, v7, v8, v9, v10, v11]) "loop.example/reed/impl.leastLine") w = .ok (81, .agg #[v0, v1, v2, v3, v4, v5, v6, v7, v8, v9, v10, v11]) w := by kernel_rfl
theorem meth_top_let (v0 v1 v2 v3 v4 v5 v6 v7 v8 v9 v10 v11 : Value) (w : World) : Sem.run Try.prog (method 247 84 (.agg #[v0, v1, v2, v3, v4, v5, v6, v7, v8, v9, v10, v11]) "loop.example/reed/impl.top") w = .ok (79, .agg #[v0, v1, v2, v3, v4, v5, v6, v7, v8, v9, v10, v11]) w := by kernel_rfl
theorem meth_family_let (v0 v1 v2 v3 v4 v5 v6 v7 v8 v9 v10 v11 : Value) (w : World) : Sem.run Try.prog (method 247 84 (.agg #[v0, v1, v2, v3, v4, v5, v6, v7, v8, v9, v10, v11]) "loop.example/reed/impl.family") w = .ok (80, .agg #[v0, v1, v2, v3, v4, v5, v6, v7, v8, v9, v10, v11]) w := by kernel_rfl
theorem meth_leastLine_let (v0 v1 v2 v3 v4 v5 v6 v7 v8 v9 v10 v11 : Value) (w : World) : Sem.run Try.prog (method 247 84 (.agg #[v0, v1, v2, v3, v4, v5, v6, v7, v8, v9, v10, v11]) "loop.example/reed/impl.leastLine") w = .ok (81, .agg #[v0, v1, v2, v3, v4, v5, v6, v7, v8, v9, v10, v11]) w := by kernel_rfl
theorem meth_top_const (v0 v1 v2 v3 v4 v5 v6 v7 v8 v9 v10 v11 : Value) (w : World) : Sem.run Try.prog (method 247 85 (.agg #[v0, v1, v2, v3, v4, v5, v6, v7, v8, v9, v10, v11]) "loop.example/reed/impl.top") w = .ok (79, .agg #[v0, v1, v2, v3, v4, v5, v6, v7, v8, v9, v10, v11]) w := by kernel_rfl
theorem meth_family_const (v0 v1 v2 v3 v4 v5 v6 v7 v8 v9 v10 v11 : Value) (w : World) : Sem.run Try.prog (method 247 85 (.agg #[v0, v1, v2, v3, v4, v5, v6, v7, v8, v9, v10, v11]) "loop.example/reed/impl.family") w = .ok (80, .agg #[v0, v1, v2, v3, v4, v5, v6, v7, v8, v9, v10, v11]) w := by kernel_rfl
theorem meth_leastLine_const (v0 v1 v2 v3 v4 v5 v6 v7 v8 v9 v10 v11 : Value) (w : World) : Sem.run Try.prog (method 247 85 (.agg #[v0, v1, v2, v3, v4, v5, v6, v7, v8, v9, v10, v11]) "loop.example/reed/impl.leastLine") w = .ok (81, .agg #[v0, v1, v2, v3, v4, v5, v6, v7, v8, v9, v10, v11]) w := by kernel_rfl
theorem meth_top_ownFn (v0 v1 v2 v3 v4 v5 v6 v7 v8 v9 v10 v11 : Value) (w : World) : Sem.run Try.prog (method 247 87 (.agg #[v0, v1, v2, v3, v4, v5, v6, v7, v8, v9, v10, v11]) "loop.example/reed/impl.top") w = .ok (79, .agg #[v0, v1, v2, v3, v4, v5, v6, v7, v8, v9, v10, v11]) w := by kernel_rfl
theorem meth_family_ownFn (v0 v1 v2 v3 v4 v5 v6 v7 v8 v9 v10 v11 : Value) (w : World) : Sem.run Try.prog (method 247 87 (.agg #[v0, v1, v2, v3, v4, v5, v6, v7, v8, v9, v10, v11]) "loop.example/reed/impl.family") w = .ok (80, .agg #[v0, v1, v2, v3, v4, v5, v6, v7, v8, v9, v10, v11]) w := by kernel_rfl
theorem meth_leastLine_ownFn (v0 v1 v2 v3 v4 v5 v6 v7 v8 v9 v10 v11 : Value) (w : World) : Sem.run Try.prog (method 247 87 (.agg #[v0, v1, v2, v3, v4, v5, v6, v7, v8, v9, v10, v11]) "loop.example/reed/impl.leastLine") w = .ok (81, .agg #[v0, v1, v2, v3, v4, v5, v6, v7, v8, v9, v10, v11]) w := by kernel_rfl
theorem meth_top_set (v0 v1 v2 v3 v4 v5 v6 v7 v8 v9 v10 v11 : Value) (w : World) : Sem.run Try.prog (method 247 88 (.agg #[v0, v1, v2, v3, v4, v5, v6, v7, v8, v9, v10, v11]) "loop.example/reed/impl.top") w = .ok (79, .agg #[v0, v1, v2, v3, v4, v5, v6, v7, v8, v9, v10, v11]) w := by kernel_rfl
theorem meth_family_set (v0 v1 v2 v3 v4 v5 v6 v7 v8 v9 v10 v11 : Value) (w : World) : Sem.run Try.prog (method 247 88 (.agg #[v0, v1, v2, v3, v4, v5, v6, v7, v8, v9, v10, v11]) "loop.example/reed/impl.family") w = .ok (80, .agg #[v0, v1, v2, v3, v4, v5, v6, v7, v8, v9, v10, v11]) w := by kernel_rfl
theorem meth_leastLine_set (v0 v1 v2 v3 v4 v5 v6 v7 v8 v9 v10 v11 : Value) (w : World) : Sem.run Try.prog (method 247 88 (.agg #[v0, v1, v2, v3, v4, v5, v6, v7, v8, v9, v10, v11]) "loop.example/reed/impl.leastLine") w = .ok (81, .agg #[v0, v1, v2, v3, v4, v5, v6, v7, v8, v9, v10, v11]) w := by kernel_rfl
theorem meth_top_do (v0 v1 v2 v3 v4 v5 v6 v7 v8 v9 v10 v11 : Value) (w : World) : Sem.run Try.prog (method 247 90 (.agg #[v0, v1, v2, v3, v4, v5, v6, v7, v8, v9, v10, v11]) "loop.example/reed/impl.top") w = .ok (79, .agg #[v0, v1, v2, v3, v4, v5, v6, v7, v8, v9, v10, v11]) w := by kernel_rfl
theorem meth_family_do (v0 v1 v2 v3 v4 v5 v6 v7 v8 v9 v10 v11 : Value) (w : World) : Sem.run Try.prog (method 247 90 (.agg #[v0, v1, v2, v3, v4, v5, v6, v7, v8, v9, v10, v11]) "loop.example/reed/impl.family") w = .ok (80, .agg #[v0, v1, v2, v3, v4, v5, v6, v7, v8, v9, v10, v11]) w := by kernel_rfl
theorem meth_leastLine_do (v0 v1 v2 v3 v4 v5 v6 v7 v8 v9 v10 v11 : Value) (w : World) : Sem.run Try.prog (method 247 90 (.agg #[v0, v1, v2, v3, v4, v5, v6, v7, v8, v9, v10, v11]) "loop.example/reed/impl.leastLine") w = .ok (81, .agg #[v0, v1, v2, v3, v4, v5, v6, v7, v8, v9, v10, v11]) w := by kernel_rfl
theorem meth_top_if (v0 v1 v2 v3 v4 v5 v6 v7 v8 v9 v10 v11 : Value) (w : World) : Sem.run Try.prog (method 247 91 (.agg #[v0, v1, v2, v3, v4, v5, v6, v7, v8, v9, v10, v11]) "loop.example/reed/impl.top") w = .ok (79, .agg #[v0, v1, v2, v3, v4, v5, v6, v7, v8, v9, v10, v11]) w := by kernel_rfl
theorem meth_family_if (v0 v1 v2 v3 v4 v5 v6 v7 v8 v9 v10 v11 : Value) (w : World) : Sem.run Try.prog (method 247 91 (.agg #[v0, v1, v2, v3, v4, v5, v6, v7, v8, v9, v10, v11]) "loop.example/reed/impl.family") w = .ok (80, .agg #[v0, v1, v2, v3, v4, v5, v6, v7, v8, v9, v10, v11]) w := by kernel_rfl
theorem meth_leastLine_if (v0 v1 v2 v3 v4 v5 v6 v7 v8 v9 v10 v11 : Value) (w : World) : Sem.run Try.prog (method 247 91 (.agg #[v0, v1, v2, v3, v4, v5, v6, v7, v8, v9, v10, v11]) "loop.example/reed/impl.leastLine") w = .ok (81, .agg #[v0, v1, v2, v3, v4, v5, v6, v7, v8, v9, v10, v11]) w := by kernel_rfl
theorem meth_top_while (v0 v1 v2 v3 v4 v5 v6 v7 v8 v9 v10 v11 : Value) (w : World) : Sem.run Try.prog (method 247 92 (.agg #[v0, v1, v2, v3, v4, v5, v6, v7, v8, v9, v10, v11]) "loop.example/reed/impl.top") w = .ok (79, .agg #[v0, v1, v2, v3, v4, v5, v6, v7, v8, v9, v10, v11]) w := by kernel_rfl
theorem meth_family_while (v0 v1 v2 v3 v4 v5 v6 v7 v8 v9 v10 v11 : Value) (w : World) : Sem.run Try.prog (method 247 92 (.agg #[v0, v1, v2, v3, v4, v5, v6, v7, v8, v9, v10, v11]) "loop.example/reed/impl.family") w = .ok (80, .agg #[v0, v1, v2, v3, v4, v5, v6, v7, v8, v9, v10, v11]) w := by kernel_rfl
theorem meth_leastLine_while (v0 v1 v2 v3 v4 v5 v6 v7 v8 v9 v10 v11 : Value) (w : World) : Sem.run Try.prog (method 247 92 (.agg #[v0, v1, v2, v3, v4, v5, v6, v7, v8, v9, v10, v11]) "loop.example/reed/impl.leastLine") w = .ok (81, .agg #[v0, v1, v2, v3, v4, v5, v6, v7, v8, v9, v10, v11]) w := by kernel_rfl
theorem meth_top_for (v0 v1 v2 v3 v4 v5 v6 v7 v8 v9 v10 v11 : Value) (w : World) : Sem.run Try.prog (method 247 93 (.agg #[v0, v1, v2, v3, v4, v5, v6, v7, v8, v9, v10, v11]) "loop.example/reed/impl.top") w = .ok (79, .agg #[v0, v1, v2, v3, v4, v5, v6, v7, v8, v9, v10, v11]) w := by kernel_rfl
theorem meth_family_for (v0 v1 v2 v3 v4 v5 v6 v7 v8 v9 v10 v11 : Value) (w : World) : Sem.run Try.prog (method 247 93 (.agg #[v0, v1, v2, v3, v4, v5, v6, v7, v8, v9, v10, v11]) "loop.example/reed/impl.family") w = .ok (80, .agg #[v0, v1, v2, v3, v4, v5, v6, v7, v8, v9, v10, v11]) w := by kernel_rfl
theorem meth_leastLine_for (v0 v1 v2 v3 v4 v5 v6 v7 v8 v9 v10 v11 : Value) (w : World) : Sem.run Try.prog (method 247 93 (.agg #[v0, v1, v2, v3, v4, v5, v6, v7, v8, v9, v10, v11]) "loop.example/reed/impl.leastLine") w = .ok (81, .agg #[v0, v1, v2, v3, v4, v5, v6, v7, v8, v9, v10, v11]) w := by kernel_rfl
theorem meth_top_each (v0 v1 v2 v3 v4 v5 v6 v7 v8 v9 v10 v11 : Value) (w : World) : Sem.run Try.prog (method 247 94 (.agg #[v0, v1, v2, v3, v4, v5, v6, v7, v8, v9, v10, v11]) "loop.example/reed/impl.top") w = .ok (79, .agg #[v0, v1, v2, v3, v4, v5, v6, v7, v8, v9, v10, v11]) w := by kernel_rfl
theorem meth_family_each (v0 v1 v2 v3 v4 v5 v6 v7 v8 v9 v10 v11 : Value) (w : World) : Sem.run Try.prog (method 247 94 (.agg #[v0, v1, v2, v3, v4, v5, v6, v7, v8, v9, v10, v11]) "loop.example/reed/impl.family") w = .ok (80, .agg #[v0, v1, v2, v3, v4, v5, v6, v7, v8, v9, v10, v11]) w := by kernel_rfl
theorem meth_leastLine_each (v0 v1 v2 v3 v4 v5 v6 v7 v8 v9 v10 v11 : Value) (w : World) : Sem.run Try.prog (method 247 94 (.agg #[v0, v1, v2, v3, v4, v5, v6, v7, v8, v9, v10, v11]) "loop.example/reed/impl.leastLine") w = .ok (81, .agg #[v0, v1, v2, v3, v4, v5, v6, v7, v8, v9, v10, v11]) w := by kernel_rfl
theorem meth_top_jump (v0 v1 v2 v3 v4 v5 v6 v7 v8 v9 v10 v11 : Value) (w : World) : Sem.run Try.prog (method 247 95 (.agg #[v0, v1, v2, v3, v4, v5, v6, v7, v8, v9, v10, v11]) "loop.example/reed/impl.top") w = .ok (79, .agg #[v0, v1, v2, v3, v4, v5, v6, v7, v8, v9, v10, v11]) w := by kernel_rfl
theorem meth_family_jump (v0 v1 v2 v3 v4 v5 v6 v7 v8 v9 v10 v11 : Value) (w : World) : Sem.run Try.prog (method 247 95 (.agg #[v0, v1, v2, v3, v4, v5, v6, v7, v8, v9, v10, v11]) "loop.example/reed/impl.family") w = .ok (80, .agg #[v0, v1, v2, v3, v4, v5, v6, v7, v8, v9, v10, v11]) w := by kernel_rfl
theorem meth_leastLine_jump (v0 v1 v2 v3 v4 v5 v6 v7 v8 v9 v10 v11 : Value) (w : World) : Sem.run Try.prog (method 247 95 (.agg #[v0, v1, v2, v3, v4, v5, v6, v7, v8, v9, v10, v11]) "loop.example/reed/impl.leastLine") w = .ok (81, .agg #[v0, v1, v2, v3, v4, v5, v6, v7, v8, v9, v10, v11]) w := by kernel_rfl
theorem meth_top_return (v0 v1 v2 v3 v4 v5 v6 v7 v8 v9 v10 v11 : Value) (w : World) : Sem.run Try.prog (method 247 96 (.agg #[v0, v1, v2, v3, v4, v5, v6, v7, v8, v9, v10, v11]) "loop.example/reed/impl.top") w = .ok (79, .agg #[v0, v1, v2, v3, v4, v5, v6, v7, v8, v9, v10, v11]) w := by kernel_rfl
theorem meth_family_return (v0 v1 v2 v3 v4 v5 v6 v7 v8 v9 v10 v11 : Value) (w : World) : Sem.run Try.prog (method 247 96 (.agg #[v0, v1, v2, v3, v4, v5, v6, v7, v8, v9, v10, v11]) "loop.example/reed/impl.family") w = .ok (80, .agg #[v0, v1, v2, v3, v4, v5, v6, v7, v8, v9, v10, v11]) w := by kernel_rfl
theorem meth_leastLine_return (v0 v1 v2 v3 v4 v5 v6 v7 v8 v9 v10 v11 : Value) (w : World) : Sem.run Try.prog (method 247 96 (.agg #[v0, v1, v2, v3, v4, v5, v6, v7, v8, v9, v10, v11]) "loop.example/reed/impl.leastLine") w = .ok (81, .agg #[v0, v1, v2, v3, v4, v5, v6, v7, v8, v9, v10, v11]) w := by kernel_rfl
theorem meth_top_try (v0 v1 v2 v3 v4 v5 v6 v7 v8 v9 v10 v11 : Value) (w : World) : Sem.run Try.prog (method 247 97 (.agg #[v0, v1, v2, v3, v4, v5, v6, v7, v8, v9, v10, v11]) "loop.example/reed/impl.top") w = .ok (79, .agg #[v0, v1, v2, v3, v4, v5, v6, v7, v8, v9, v10, v11]) w := by kernel_rfl
theorem meth_family_try (v0 v1 v2 v3 v4 v5 v6 v7 v8 v9 v10 v11 : Value) (w : World) : Sem.run Try.prog (method 247 97 (.agg #[v0, v1, v2, v3, v4, v5, v6, v7, v8, v9, v10, v11]) "loop.example/reed/impl.family") w = .ok (80, .agg #[v0, v1, v2, v3, v4, v5, v6, v7, v8, v9, v10, v11]) w := by kernel_rfl
theorem meth_leastLine_try (v0 v1 v2 v3 v4 v5 v6 v7 v8 v9 v10 v11 : Value) (w : World) : Sem.run Try.prog (method 247 97 (.agg #[v0, v1, v2, v3, v4, v5, v6, v7, v8, v9, v10, v11]) "loop.example/reed/impl.leastLine") w = .ok (81, .agg #[v0, v1, v2, v3, v4, v5, v6, v7, v8, v9, v10, v11]) w := by kernel_rfl
theorem meth_top_throw (v0 v1 v2 v3 v4 v5 v6 v7 v8 v9 v10 v11 : Value) (w : World) : Sem.run Try.prog (method 247 98 (.agg #[v0, v1, v2, v3, v4, v5, v6, v7, v8, v9, v10, v11]) "loop.example/reed/impl.top") w = .ok (79, .agg #[v0, v1, v2, v3, v4, v5, v6, v7, v8, v9, v10, v11]) w := by kernel_rfl
theorem meth_family_throw (v0 v1 v2 v3 v4 v5 v6 v7 v8 v9 v10 v11 : Value) (w : World) : Sem.run Try.prog (method 247 98 (.agg #[v0, v1, v2, v3, v4, v5, v6, v7, v8, v9, v10, v11]) "loop.example/reed/impl.family") w = .ok (80, .agg #[v0, v1, v2, v3, v4, v5, v6, v7, v8, v9, v10, v11]) w := by kernel_rfl
theorem meth_leastLine_throw (v0 v1 v2 v3 v4 v5 v6 v7 v8 v9 v10 v11 : Value) (w : World) : Sem.run Try.prog (method 247 98 (.agg #[v0, v1, v2, v3, v4, v5, v6, v7, v8, v9, v10, v11]) "loop.example/reed/impl.leastLine") w = .ok (81, .agg #[v0, v1, v2, v3, v4, v5, v6, v7, v8, v9, v10, v11]) w := by kernel_rfl
theorem meth_top_bare (v0 v1 v2 v3 v4 v5 v6 v7 v8 v9 v10 v11 : Value) (w : World) : Sem.run Try.prog (method 247 100 (.agg #[v0, v1, v2, v3, v4, v5, v6, v7, v8, v9, v10, v11]) "loop.example/reed/impl.top") w = .ok (79, .agg #[v0, v1, v2, v3, v4, v5, v6, v7, v8, v9, v10, v11]) w := by kernel_rfl
theorem meth_family_bare (v0 v1 v2 v3 v4 v5 v6 v7 v8 v9 v10 v11 : Value) (w : World) : Sem.run Try.prog (method 247 100 (.agg #[v0, v1, v2, v3, v4, v5, v6, v7, v8, v9, v10, v11]) "loop.example/reed/impl.family") w = .ok (82, .agg #[v0, v1, v2, v3, v4, v5, v6, v7, v8, v9, v10, v11]) w := by kernel_rfl
theorem meth_leastLine_bare (v0 v1 v2 v3 v4 v5 v6 v7 v8 v9 v10 v11 : Value) (w : World) : Sem.run Try.prog (method 247 100 (.agg #[v0, v1, v2, v3, v4, v5, v6, v7, v8, v9, v10, v11]) "loop.example/reed/impl.leastLine") w = .ok (78, .agg #[v0, v1, v2, v3, v4, v5, v6, v7, v8, v9, v10, v11]) w := by kernel_rfl
theorem meth_top_int (v0 v1 v2 v3 v4 v5 v6 v7 v8 v9 v10 v11 : Value) (w : World) : Sem.run Try.prog (method 247 102 (.agg #[v0, v1, v2, v3, v4, v5, v6, v7, v8, v9, v10, v11]) "loop.example/reed/impl.top") w = .ok (79, .agg #[v0, v1, v2, v3, v4, v5, v6, v7, v8, v9, v10, v11]) w := by kernel_rfl
theorem meth_family_int (v0 v1 v2 v3 v4 v5 v6 v7 v8 v9 v10 v11 : Value) (w : World) : Sem.run Try.prog (method 247 102 (.agg #[v0, v1, v2, v3, v4, v5, v6, v7, v8, v9, v10, v11]) "loop.example/reed/impl.family") w = .ok (82, .agg #[v0, v1, v2, v3, v4, v5, v6, v7, v8, v9, v10, v11]) w := by kernel_rfl
theorem meth_leastLine_int (v0 v1 v2 v3 v4 v5 v6 v7 v8 v9 v10 v11 : Value) (w : World) : Sem.run Try.prog (method 247 102 (.agg #[v0, v1, v2, v3, v4, v5, v6, v7, v8, v9, v10, v11]) "loop.example/reed/impl.leastLine") w = .ok (78, .agg #[v0, v1, v2, v3, v4, v5, v6, v7, v8, v9, v10, v11]) w := by kernel_rfl
theorem meth_top_flt (v0 v1 v2 v3 v4 v5 v6 v7 v8 v9 v10 v11 : Value) (w : World) : Sem.run Try.prog (method 247 103 (.agg #[v0, v1, v2, v3, v4, v5, v6, v7, v8, v9, v10, v11]) "loop.example/reed/impl.top") w = .ok (79, .agg #[v0, v1, v2, v3, v4, v5, v6, v7, v8, v9, v10, v11]) w := by kernel_rfl
theorem meth_family_flt (v0 v1 v2 v3 v4 v5 v6 v7 v8 v9 v10 v11 : Value) (w : World) : Sem.run Try.prog (method 247 103 (.agg #[v0, v1, v2, v3, v4, v5, v6, v7, v8, v9, v10, v11]) "loop.example/reed/impl.family") w = .ok (82, .agg #[v0, v1, v2, v3, v4, v5, v6, v7, v8, v9, v10, v11]) w := by kernel_rfl
theorem meth_leastLine_flt (v0 v1 v2 v3 v4 v5 v6 v7 v8 v9 v10 v11 : Value) (w : World) : Sem.run Try.prog (method 247 103 (.agg #[v0, v1, v2, v3, v4, v5, v6, v7, v8, v9, v10, v11]) "loop.example/reed/impl.leastLine") w = .ok (78, .agg #[v0, v1, v2, v3, v4, v5, v6, v7, v8, v9, v10, v11]) w := by kernel_rfl
theorem meth_top_str (v0 v1 v2 v3 v4 v5 v6 v7 v8 v9 v10 v11 : Value) (w : World) : Sem.run Try.prog (method 247 105 (.agg #[v0, v1, v2, v3, v4, v5, v6, v7, v8, v9, v10, v11]) "loop.example/reed/impl.top") w = .ok (79, .agg #[v0, v1, v2, v3, v4, v5, v6, v7, v8, v9, v10, v11]) w := by kernel_rfl
theorem meth_family_str (v0 v1 v2 v3 v4 v5 v6 v7 v8 v9 v10 v11 : Value) (w : World) : Sem.run Try.prog (method 247 105 (.agg #[v0, v1, v2, v3, v4, v5, v6, v7, v8, v9, v10, v11]) "loop.example/reed/impl.family") w = .ok (82, .agg #[v0, v1, v2, v3, v4, v5, v6, v7, v8, v9, v10, v11]) w := by kernel_rfl
theorem meth_leastLine_str (v0 v1 v2 v3 v4 v5 v6 v7 v8 v9 v10 v11 : Value) (w : World) : Sem.run Try.prog (method 247 105 (.agg #[v0, v1, v2, v3, v4, v5, v6, v7, v8, v9, v10, v11]) "loop.example/reed/impl.leastLine") w = .ok (78, .agg #[v0, v1, v2, v3, v4, v5, v6, v7, v8, v9, v10, v11]) w := by kernel_rfl
theorem meth_top_name (v0 v1 v2 v3 v4 v5 v6 v7 v8 v9 v10 v11 : Value) (w : World) : Sem.run Try.prog (method 247 106 (.agg #[v0, v1, v2, v3, v4, v5, v6, v7, v8, v9, v10, v11]) "loop.example/reed/impl.top") w = .ok (79, .agg #[v0, v1, v2, v3, v4, v5, v6, v7, v8, v9, v10, v11]) w := by kernel_rfl
theorem meth_family_name (v0 v1 v2 v3 v4 v5 v6 v7 v8 v9 v10 v11 : Value) (w : World) : Sem.run Try.prog (method 247 106 (.agg #[v0, v1, v2, v3, v4, v5, v6, v7, v8, v9, v10, v11]) "loop.example/reed/impl.family") w = .ok (82, .agg #[v0, v1, v2, v3, v4, v5, v6, v7, v8, v9, v10, v11]) w := by kernel_rfl
theorem meth_leastLine_name (v0 v1 v2 v3 v4 v5 v6 v7 v8 v9 v10 v11 : Value) (w : World) : Sem.run Try.prog (method 247 106 (.agg #[v0, v1, v2, v3, v4, v5, v6, v7, v8, v9, v10, v11]) "loop.example/reed/impl.leastLine") w = .ok (78, .agg #[v0, v1, v2, v3, v4, v5, v6, v7, v8, v9, v10, v11]) w := by kernel_rfl
theorem meth_top_rest (v0 v1 v2 v3 v4 v5 v6 v7 v8 v9 v10 v11 : Value) (w : World) : Sem.run Try.prog (method 247 101 (.agg #[v0, v1, v2, v3, v4, v5, v6, v7, v8, v9, v10, v11]) "loop.example/reed/impl.top") w = .ok (79, .agg #[v0, v1, v2, v3, v4, v5, v6, v7, v8, v9, v10, v11]) w := by kernel_rfl
theorem meth_family_rest (v0 v1 v2 v3 v4 v5 v6 v7 v8 v9 v10 v11 : Value) (w : World) : Sem.run Try.prog (method 247 101 (.agg #[v0, v1, v2, v3, v4, v5, v6, v7, v8, v9, v10, v11]) "loop.example/reed/impl.family") w = .ok (82, .agg #[v0, v1, v2, v3, v4, v5, v6, v7, v8, v9, v10, v11]) w := by kernel_rfl
theorem meth_leastLine_rest (v0 v1 v2 v3 v4 v5 v6 v7 v8 v9 v10 v11 : Value) (w : World) : Sem.run Try.prog (method 247 101 (.agg #[v0, v1, v2, v3, v4, v5, v6, v7, v8, v9, v10, v11]) "loop.example/reed/impl.leastLine") w = .ok (78, .agg #[v0, v1, v2, v3, v4, v5, v6, v7, v8, v9, v10, v11]) w := by kernel_rfl
theorem meth_top_either (v0 v1 v2 v3 v4 v5 v6 v7 v8 v9 v10 v11 : Value) (w : World) : Sem.run Try.prog (method 247 107 (.agg #[v0, v1, v2, v3, v4, v5, v6, v7, v8, v9, v10, v11]) "loop.example/reed/impl.top") w = .ok (79, .agg #[v0, v1, v2, v3, v4, v5, v6, v7, v8, v9, v10, v11]) w := by kernel_rfl
theorem meth_family_either (v0 v1 v2 v3 v4 v5 v6 v7 v8 v9 v10 v11 : Value) (w : World) : Sem.run Try.prog (method 247 107 (.agg #[v0, v1, v2, v3, v4, v5, v6, v7, v8, v9, v10, v11]) "loop.example/reed/impl.family") w = .ok (82, .agg #[v0, v1, v2, v3, v4, v5, v6, v7, v8, v9, v10, v11]) w := by kernel_rfl
theorem meth_leastLine_either (v0 v1 v2 v3 v4 v5 v6 v7 v8 v9 v10 v11 : Value) (w : World) : Sem.run Try.prog (method 247 107 (.agg #[v0, v1, v2, v3, v4, v5, v6, v7, v8, v9, v10, v11]) "loop.example/reed/impl.leastLine") w = .ok (78, .agg #[v0, v1, v2, v3, v4, v5, v6, v7, v8, v9, v10, v11]) w := by kernel_rfl
theorem meth_top_unary (v0 v1 v2 v3 v4 v5 v6 v7 v8 v9 v10 v11 : Value) (w : World) : Sem.run Try.prog (method 247 108 (.agg #[v0, v1, v2, v3, v4, v5, v6, v7, v8, v9, v10, v11]) "loop.example/reed/impl.top") w = .ok (79, .agg #[v0, v1, v2, v3, v4, v5, v6, v7, v8, v9, v10, v11]) w := by kernel_rfl
theorem meth_family_unary (v0 v1 v2 v3 v4 v5 v6 v7 v8 v9 v10 v11 : Value) (w : World) : Sem.run Try.prog (method 247 108 (.agg #[v0, v1, v2, v3, v4, v5, v6, v7, v8, v9, v10, v11]) "loop.example/reed/impl.family") w = .ok (82, .agg #[v0, v1, v2, v3, v4, v5, v6, v7, v8, v9, v10, v11]) w := by kernel_rfl
theorem meth_leastLine_unary (v0 v1 v2 v3 v4 v5 v6 v7 v8 v9 v10 v11 : Value) (w : World) : Sem.run Try.prog (method 247 108 (.agg #[v0, v1, v2, v3, v4, v5, v6, v7, v8, v9, v10, v11]) "loop.example/reed/impl.leastLine") w = .ok (78, .agg #[v0, v1, v2, v3, v4, v5, v6, v7, v8, v9, v10, v11]) w := by kernel_rfl
theorem meth_top_binary (v0 v1 v2 v3 v4 v5 v6 v7 v8 v9 v10 v11 : Value) (w : World) : Sem.run Try.prog (method 247 109 (.agg #[v0, v1, v2, v3, v4, v5, v6, v7, v8, v9, v10, v11]) "loop.example/reed/impl.top") w = .ok (79, .agg #[v0, v1, v2, v3, v4, v5, v6, v7, v8, v9, v10, v11]) w := by kernel_rfl
theorem meth_family_binary (v0 v1 v2 v3 v4 v5 v6 v7 v8 v9 v10 v11 : Value) (w : World) : Sem.run Try.prog (method 247 109 (.agg #[v0, v1, v2, v3, v4, v5, v6, v7, v8, v9, v10, v11]) "loop.example/reed/impl.family") w = .ok (82, .agg #[v0, v1, v2, v3, v4, v5, v6, v7, v8, v9, v10, v11]) w := by kernel_rfl
theorem meth_leastLine_binary (v0 v1 v2 v3 v4 v5 v6 v7 v8 v9 v10 v11 : Value) (w : World) : Sem.run Try.prog (method 247 109 (.agg #[v0, v1, v2, v3, v4, v5, v6, v7, v8, v9, v10, v11]) "loop.example/reed/impl.leastLine") w = .ok (78, .agg #[v0, v1, v2, v3, v4, v5, v6, v7, v8, v9, v10, v11]) w := by kernel_rfl
theorem meth_top_index (v0 v1 v2 v3 v4 v5 v6 v7 v8 v9 v10 v11 : Value) (w : World) : Sem.run Try.prog (method 247 110 (.agg #[v0, v1, v2, v3, v4, v5, v6, v7, v8, v9, v10, v11]) "loop.example/reed/impl.top") w = .ok (79, .agg #[v0, v1, v2, v3, v4, v5, v6, v7, v8, v9, v10, v11]) w := by kernel_rfl
theorem meth_family_index (v0 v1 v2 v3 v4 v5 v6 v7 v8 v9 v10 v11 : Value) (w : World) : Sem.run Try.prog (method 247 110 (.agg #[v0, v1, v2, v3, v4, v5, v6, v7, v8, v9, v10, v11]) "loop.example/reed/impl.family") w = .ok (82, .agg #[v0, v1, v2, v3, v4, v5, v6, v7, v8, v9, v10, v11]) w := by kernel_rfl
theorem meth_leastLine_index (v0 v1 v2 v3 v4 v5 v6 v7 v8 v9 v10 v11 : Value) (w : World) : Sem.run Try.prog (method 247 110 (.agg #[v0, v1, v2, v3, v4, v5, v6, v7, v8, v9, v10, v11]) "loop.example/reed/impl.leastLine") w = .ok (78, .agg #[v0, v1, v2, v3, v4, v5, v6, v7, v8, v9, v10, v11]) w := by kernel_rfl
theorem meth_top_field (v0 v1 v2 v3 v4 v5 v6 v7 v8 v9 v10 v11 : Value) (w : World) : Sem.run Try.prog (method 247 111 (.agg #[v0, v1, v2, v3, v4, v5, v6, v7, v8, v9, v10, v11]) "loop.example/reed/impl.top") w = .ok (79, .agg #[v0, v1, v2, v3, v4, v5, v6, v7, v8, v9, v10, v11]) w := by kernel_rfl
theorem meth_family_field (v0 v1 v2 v3 v4 v5 v6 v7 v8 v9 v10 v11 : Value) (w : World) : Sem.run Try.prog (method 247 111 (.agg #[v0, v1, v2, v3, v4, v5, v6, v7, v8, v9, v10, v11]) "loop.example/reed/impl.family") w = .ok (82, .agg #[v0, v1, v2, v3, v4, v5, v6, v7, v8, v9, v10, v11]) w := by kernel_rfl
theorem meth_leastLine_field (v0 v1 v2 v3 v4 v5 v6 v7 v8 v9 v10 v11 : Value) (w : World) : Sem.run Try.prog (method 247 111 (.agg #[v0, v1, v2, v3, v4, v5, v6, v7, v8, v9, v10, v11]) "loop.example/reed/impl.leastLine") w = .ok (78, .agg #[v0, v1, v2, v3, v4, v5, v6, v7, v8, v9, v10, v11]) w := by kernel_rfl
theorem meth_top_call (v0 v1 v2 v3 v4 v5 v6 v7 v8 v9 v10 v11 : Value) (w : World) : Sem.run Try.prog (method 247 112 (.agg #[v0, v1, v2, v3, v4, v5, v6, v7, v8, v9, v10, v11]) "loop.example/reed/impl.top") w = .ok (79, .agg #[v0, v1, v2, v3, v4, v5, v6, v7, v8, v9, v10, v11]) w := by kernel_rfl
theorem meth_family_call (v0 v1 v2 v3 v4 v5 v6 v7 v8 v9 v10 v11 : Value) (w : World) : Sem.run Try.prog (method 247 112 (.agg #[v0, v1, v2, v3, v4, v5, v6, v7, v8, v9, v10, v11]) "loop.example/reed/impl.family") w = .ok (82, .agg #[v0, v1, v2, v3, v4, v5, v6, v7, v8, v9, v10, v11]) w := by kernel_rfl
theorem meth_leastLine_call (v0 v1 v2 v3 v4 v5 v6 v7 v8 v9 v10 v11 : Value) (w : World) : Sem.run Try.prog (method 247 112 (.agg #[v0, v1, v2, v3, v4, v5, v6, v7, v8, v9, v10, v11]) "loop.example/reed/impl.leastLine") w = .ok (78, .agg #[v0, v1, v2, v3, v4, v5, v6, v7, v8, v9, v10, v11]) w := by kernel_rfl
theorem meth_top_table (v0 v1 v2 v3 v4 v5 v6 v7 v8 v9 v10 v11 : Value) (w : World) : Sem.run Try.prog (method 247 113 (.agg #[v0, v1, v2, v3, v4, v5, v6, v7, v8, v9, v10, v11]) "loop.example/reed/impl.top") w = .ok (79, .agg #[v0, v1, v2, v3, v4, v5, v6, v7, v8, v9, v10, v11]) w := by kernel_rfl
theorem meth_family_table (v0 v1 v2 v3 v4 v5 v6 v7 v8 v9 v10 v11 : Value) (w : World) : Sem.run Try.prog (method 247 113 (.agg #[v0, v1, v2, v3, v4, v5, v6, v7, v8, v9, v10, v11]) "loop.example/reed/impl.family") w = .ok (82, .agg #[v0, v1, v2, v3, v4, v5, v6, v7, v8, v9, v10, v11]) w := by kernel_rfl
theorem meth_leastLine_table (v0 v1 v2 v3 v4 v5 v6 v7 v8 v9 v10 v11 : Value) (w : World) : Sem.run Try.prog (method 247 113 (.agg #[v0, v1, v2, v3, v4, v5, v6, v7, v8, v9, v10, v11]) "loop.example/reed/impl.leastLine") w = .ok (78, .agg #[v0, v1, v2, v3, v4, v5, v6, v7, v8, v9, v10, v11]) w := by kernel_rfl
theorem meth_top_fn (v0 v1 v2 v3 v4 v5 v6 v7 v8 v9 v10 v11 : Value) (w : World) : Sem.run Try.prog (method 247 114 (.agg #[v0, v1, v2, v3, v4, v5, v6, v7, v8, v9, v10, v11]) "loop.example/reed/impl.top") w = .ok (79, .agg #[v0, v1, v2, v3, v4, v5, v6, v7, v8, v9, v10, v11]) w := by kernel_rfl
theorem meth_family_fn (v0 v1 v2 v3 v4 v5 v6 v7 v8 v9 v10 v11 : Value) (w : World) : Sem.run Try.prog (method 247 114 (.agg #[v0, v1, v2, v3, v4, v5, v6, v7, v8, v9, v10, v11]) "loop.example/reed/impl.family") w = .ok (82, .agg #[v0, v1, v2, v3, v4, v5, v6, v7, v8, v9, v10, v11]) w := by kernel_rfl
theorem meth_leastLine_fn (v0 v1 v2 v3 v4 v5 v6 v7 v8 v9 v10 v11 : Value) (w : World) : Sem.run Try.prog (method 247 114 (.agg #[v0, v1, v2, v3, v4, v5, v6, v7, v8, v9, v10, v11]) "loop.example/reed/impl.leastLine") w = .ok (78, .agg #[v0, v1, v2, v3, v4, v5, v6, v7, v8, v9, v10, v11]) w := by kernel_rfl
theorem meth_top_one (v0 v1 v2 v3 v4 v5 v6 v7 v8 v9 v10 v11 : Value) (w : World) : Sem.run Try.prog (method 247 116 (.agg #[v0, v1, v2, v3, v4, v5, v6, v7, v8, v9, v10, v11]) "loop.example/reed/impl.top") w = .ok (79, .agg #[v0, v1, v2, v3, v4, v5, v6, v7, v8, v9, v10, v11]) w := by kernel_rfl
theorem meth_family_one (v0 v1 v2 v3 v4 v5 v6 v7 v8 v9 v10 v11 : Value) (w : World) : Sem.run Try.prog (method 247 116 (.agg #[v0, v1, v2, v3, v4, v5, v6, v7, v8, v9, v10, v11]) "loop.example/reed/impl.family") w = .ok (82, .agg #[v0, v1, v2, v3, v4, v5, v6, v7, v8, v9, v10, v11]) w := by kernel_rfl
theorem meth_leastLine_one (v0 v1 v2 v3 v4 v5 v6 v7 v8 v9 v10 v11 : Value) (w : World) : Sem.run Try.prog (method 247 116 (.agg #[v0, v1, v2, v3, v4, v5, v6, v7, v8, v9, v10, v11]) "loop.example/reed/impl.leastLine") w = .ok (78, .agg #[v0, v1, v2, v3, v4, v5, v6, v7, v8, v9, v10, v11]) w := by kernel_rfl
theorem meth_top_item (v0 v1 v2 v3 v4 v5 v6 v7 v8 v9 v10 v11 : Value) (w : World) : Sem.run Try.prog (method 247 119 (.agg #[v0, v1, v2, v3, v4, v5, v6, v7, v8, v9, v10, v11]) "loop.example/reed/impl.top") w = .ok (79, .agg #[v0, v1, v2, v3, v4, v5, v6, v7, v8, v9, v10, v11]) w := by kernel_rfl
theorem meth_family_item (v0 v1 v2 v3 v4 v5 v6 v7 v8 v9 v10 v11 : Value) (w : World) : Sem.run Try.prog (method 247 119 (.agg #[v0, v1, v2, v3, v4, v5, v6, v7, v8, v9, v10, v11]) "loop.example/reed/impl.family") w = .ok (83, .agg #[v0, v1, v2, v3, v4, v5, v6, v7, v8, v9, v10, v11]) w := by kernel_rfl
theorem meth_leastLine_item (v0 v1 v2 v3 v4 v5 v6 v7 v8 v9 v10 v11 : Value) (w : World) : Sem.run Try.prog (method 247 119 (.agg #[v0, v1, v2, v3, v4, v5, v6, v7, v8, v9, v10, v11]) "loop.example/reed/impl.leastLine") w = .ok (78, .agg #[v0, v1, v2, v3, v4, v5, v6, v7, v8, v9, v10, v11]) w := by kernel_rfl
theorem meth_top_pair (v0 v1 v2 v3 v4 v5 v6 v7 v8 v9 v10 v11 : Value) (w : World) : Sem.run Try.prog (method 247 120 (.agg #[v0, v1, v2, v3, v4, v5, v6, v7, v8, v9, v10, v11]) "loop.example/reed/impl.top") w = .ok (79, .agg #[v0, v1, v2, v3, v4, v5, v6, v7, v8, v9, v10, v11]) w := by kernel_rfl
theorem meth_family_pair (v0 v1 v2 v3 v4 v5 v6 v7 v8 v9 v10 v11 : Value) (w : World) : Sem.run Try.prog (method 247 120 (.agg #[v0, v1, v2, v3, v4, v5, v6, v7, v8, v9, v10, v11]) "loop.example/reed/impl.family") w = .ok (83, .agg #[v0, v1, v2, v3, v4, v5, v6, v7, v8, v9, v10, v11]) w := by kernel_rfl
theorem meth_leastLine_pair (v0 v1 v2 v3 v4 v5 v6 v7 v8 v9 v10 v11 : Value) (w : World) : Sem.run Try.prog (method 247 120 (.agg #[v0, v1, v2, v3, v4, v5, v6, v7, v8, v9, v10, v11]) "loop.example/reed/impl.leastLine") w = .ok (78, .agg #[v0, v1, v2, v3, v4, v5, v6, v7, v8, v9, v10, v11]) w := by kernel_rfl
theorem meth_top_named (v0 v1 v2 v3 v4 v5 v6 v7 v8 v9 v10 v11 : Value) (w : World) : Sem.run Try.prog (method 247 121 (.agg #[v0, v1, v2, v3, v4, v5, v6, v7, v8, v9, v10, v11]) "loop.example/reed/impl.top") w = .ok (79, .agg #[v0, v1, v2, v3, v4, v5, v6, v7, v8, v9, v10, v11]) w := by kernel_rfl
theorem meth_family_named (v0 v1 v2 v3 v4 v5 v6 v7 v8 v9 v10 v11 : Value) (w : World) : Sem.run Try.prog (method 247 121 (.agg #[v0, v1, v2, v3, v4, v5, v6, v7, v8, v9, v10, v11]) "loop.example/reed/impl.family") w = .ok (83, .agg #[v0, v1, v2, v3, v4, v5, v6, v7, v8, v9, v10, v11]) w := by kernel_rfl
theorem meth_leastLine_named (v0 v1 v2 v3 v4 v5 v6 v7 v8 v9 v10 v11 : Value) (w : World) : Sem.run Try.prog (method 247 121 (.agg #[v0, v1, v2, v3, v4, v5, v6, v7, v8, v9, v10, v11]) "loop.example/reed/impl.leastLine") w = .ok (78, .agg #[v0, v1, v2, v3, v4, v5, v6, v7, v8, v9, v10, v11]) w := by kernel_rfl
theorem meth_top_strange (v0 v1 v2 v3 v4 v5 v6 v7 v8 v9 v10 v11 : Value) (w : World) : Sem.run Try.prog (method 247 73 (.agg #[v0, v1, v2, v3, v4, v5, v6, v7, v8, v9, v10, v11]) "loop.example/reed/impl.top") w = .ok (79, .agg #[v0, v1, v2, v3, v4, v5, v6, v7, v8, v9, v10, v11]) w := by kernel_rfl
theorem meth_family_strange (v0 v1 v2 v3 v4 v5 v6 v7 v8 v9 v10 v11 : Value) (w : World) : Sem.run Try.prog (method 247 73 (.agg #[v0, v1, v2, v3, v4, v5, v6, v7, v8, v9, v10, v11]) "loop.example/reed/impl.family") w = .ok (77, .agg #[v0, v1, v2, v3, v4, v5, v6, v7, v8, v9, v10, v11]) w := by kernel_rfl
theorem meth_leastLine_strange (v0 v1 v2 v3 v4 v5 v6 v7 v8 v9 v10 v11 : Value) (w : World) : Sem.run Try.prog (method 247 73 (.agg #[v0, v1, v2, v3, v4, v5, v6, v7, v8, v9, v10, v11]) "loop.example/reed/impl.leastLine") w = .ok (78, .agg #[v0, v1, v2, v3, v4, v5, v6, v7, v8, v9, v10, v11]) w := by kernel_rfl
theorem as_block_if (t : TypeId) (v : Value) (w : World) : Sem.run Try.prog (Instr.typeAssert (.iface t v) 56 81 true) w = Sem.run Try.prog (if t = 81 then pure (.tuple #[v, .bool true]) else (do let z ← zeroValue 81; pure (.tuple #[z, .bool false]))) w := by kernel_rfl
theorem as_block_z (w : World) : Sem.run Try.prog (do let z ← zeroValue 81; pure (Value.tuple #[z, .bool false])) w = .ok (Value.tuple #[.agg #[.int .i64 0, .int .i64 0, .int .i64 0, .int .i64 0, .int .i64 0, .int .i64 0, .int .i64 0, .float .f64 0, .string ByteArray.empty, .slice none 0 0, .slice none 0 0, .slice none 0 0], .bool false]) w := by kernel_rfl
theorem as_block_yes (v : Value) (w : World) : Sem.run Try.prog (Instr.typeAssert (.iface 81 v) 56 81 true) w = .ok (.tuple #[v, .bool true]) w := by kernel_rfl
theorem as_block_no {t : TypeId} (h : t ≠ 81) (v : Value) (w : World) : Sem.run Try.prog (Instr.typeAssert (.iface t v) 56 81 true) w = .ok (.tuple #[.agg #[.int .i64 0, .int .i64 0, .int .i64 0, .int .i64 0, .int .i64 0, .int .i64 0, .int .i64 0, .float .f64 0, .string ByteArray.empty, .slice none 0 0, .slice none 0 0, .slice none 0 0], .bool false]) w := by
  rw [as_block_if, if_neg h]; exact as_block_z w
theorem as_let_if (t : TypeId) (v : Value) (w : World) : Sem.run Try.prog (Instr.typeAssert (.iface t v) 56 84 true) w = Sem.run Try.prog (if t = 84 then pure (.tuple #[v, .bool true]) else (do let z ← zeroValue 84; pure (.tuple #[z, .bool false]))) w := by kernel_rfl
theorem as_let_z (w : World) : Sem.run Try.prog (do let z ← zeroValue 84; pure (Value.tuple #[z, .bool false])) w = .ok (Value.tuple #[.agg #[.int .i64 0, .int .i64 0, .int .i64 0, .int .i64 0, .int .i64 0, .int .i64 0, .int .i64 0, .float .f64 0, .string ByteArray.empty, .slice none 0 0, .slice none 0 0, .slice none 0 0], .bool false]) w := by kernel_rfl
theorem as_let_yes (v : Value) (w : World) : Sem.run Try.prog (Instr.typeAssert (.iface 84 v) 56 84 true) w = .ok (.tuple #[v, .bool true]) w := by kernel_rfl
theorem as_let_no {t : TypeId} (h : t ≠ 84) (v : Value) (w : World) : Sem.run Try.prog (Instr.typeAssert (.iface t v) 56 84 true) w = .ok (.tuple #[.agg #[.int .i64 0, .int .i64 0, .int .i64 0, .int .i64 0, .int .i64 0, .int .i64 0, .int .i64 0, .float .f64 0, .string ByteArray.empty, .slice none 0 0, .slice none 0 0, .slice none 0 0], .bool false]) w := by
  rw [as_let_if, if_neg h]; exact as_let_z w
theorem as_const_if (t : TypeId) (v : Value) (w : World) : Sem.run Try.prog (Instr.typeAssert (.iface t v) 56 85 true) w = Sem.run Try.prog (if t = 85 then pure (.tuple #[v, .bool true]) else (do let z ← zeroValue 85; pure (.tuple #[z, .bool false]))) w := by kernel_rfl
theorem as_const_z (w : World) : Sem.run Try.prog (do let z ← zeroValue 85; pure (Value.tuple #[z, .bool false])) w = .ok (Value.tuple #[.agg #[.int .i64 0, .int .i64 0, .int .i64 0, .int .i64 0, .int .i64 0, .int .i64 0, .int .i64 0, .float .f64 0, .string ByteArray.empty, .slice none 0 0, .slice none 0 0, .slice none 0 0], .bool false]) w := by kernel_rfl
theorem as_const_yes (v : Value) (w : World) : Sem.run Try.prog (Instr.typeAssert (.iface 85 v) 56 85 true) w = .ok (.tuple #[v, .bool true]) w := by kernel_rfl
theorem as_const_no {t : TypeId} (h : t ≠ 85) (v : Value) (w : World) : Sem.run Try.prog (Instr.typeAssert (.iface t v) 56 85 true) w = .ok (.tuple #[.agg #[.int .i64 0, .int .i64 0, .int .i64 0, .int .i64 0, .int .i64 0, .int .i64 0, .int .i64 0, .float .f64 0, .string ByteArray.empty, .slice none 0 0, .slice none 0 0, .slice none 0 0], .bool false]) w := by
  rw [as_const_if, if_neg h]; exact as_const_z w
theorem as_ownFn_if (t : TypeId) (v : Value) (w : World) : Sem.run Try.prog (Instr.typeAssert (.iface t v) 56 87 true) w = Sem.run Try.prog (if t = 87 then pure (.tuple #[v, .bool true]) else (do let z ← zeroValue 87; pure (.tuple #[z, .bool false]))) w := by kernel_rfl
theorem as_ownFn_z (w : World) : Sem.run Try.prog (do let z ← zeroValue 87; pure (Value.tuple #[z, .bool false])) w = .ok (Value.tuple #[.agg #[.int .i64 0, .int .i64 0, .int .i64 0, .int .i64 0, .int .i64 0, .int .i64 0, .int .i64 0, .float .f64 0, .string ByteArray.empty, .slice none 0 0, .slice none 0 0, .slice none 0 0], .bool false]) w := by kernel_rfl
theorem as_ownFn_yes (v : Value) (w : World) : Sem.run Try.prog (Instr.typeAssert (.iface 87 v) 56 87 true) w = .ok (.tuple #[v, .bool true]) w := by kernel_rfl
theorem as_ownFn_no {t : TypeId} (h : t ≠ 87) (v : Value) (w : World) : Sem.run Try.prog (Instr.typeAssert (.iface t v) 56 87 true) w = .ok (.tuple #[.agg #[.int .i64 0, .int .i64 0, .int .i64 0, .int .i64 0, .int .i64 0, .int .i64 0, .int .i64 0, .float .f64 0, .string ByteArray.empty, .slice none 0 0, .slice none 0 0, .slice none 0 0], .bool false]) w := by
  rw [as_ownFn_if, if_neg h]; exact as_ownFn_z w
theorem as_set_if (t : TypeId) (v : Value) (w : World) : Sem.run Try.prog (Instr.typeAssert (.iface t v) 56 88 true) w = Sem.run Try.prog (if t = 88 then pure (.tuple #[v, .bool true]) else (do let z ← zeroValue 88; pure (.tuple #[z, .bool false]))) w := by kernel_rfl
theorem as_set_z (w : World) : Sem.run Try.prog (do let z ← zeroValue 88; pure (Value.tuple #[z, .bool false])) w = .ok (Value.tuple #[.agg #[.int .i64 0, .int .i64 0, .int .i64 0, .int .i64 0, .int .i64 0, .int .i64 0, .int .i64 0, .float .f64 0, .string ByteArray.empty, .slice none 0 0, .slice none 0 0, .slice none 0 0], .bool false]) w := by kernel_rfl
theorem as_set_yes (v : Value) (w : World) : Sem.run Try.prog (Instr.typeAssert (.iface 88 v) 56 88 true) w = .ok (.tuple #[v, .bool true]) w := by kernel_rfl
theorem as_set_no {t : TypeId} (h : t ≠ 88) (v : Value) (w : World) : Sem.run Try.prog (Instr.typeAssert (.iface t v) 56 88 true) w = .ok (.tuple #[.agg #[.int .i64 0, .int .i64 0, .int .i64 0, .int .i64 0, .int .i64 0, .int .i64 0, .int .i64 0, .float .f64 0, .string ByteArray.empty, .slice none 0 0, .slice none 0 0, .slice none 0 0], .bool false]) w := by
  rw [as_set_if, if_neg h]; exact as_set_z w
theorem as_do_if (t : TypeId) (v : Value) (w : World) : Sem.run Try.prog (Instr.typeAssert (.iface t v) 56 90 true) w = Sem.run Try.prog (if t = 90 then pure (.tuple #[v, .bool true]) else (do let z ← zeroValue 90; pure (.tuple #[z, .bool false]))) w := by kernel_rfl
theorem as_do_z (w : World) : Sem.run Try.prog (do let z ← zeroValue 90; pure (Value.tuple #[z, .bool false])) w = .ok (Value.tuple #[.agg #[.int .i64 0, .int .i64 0, .int .i64 0, .int .i64 0, .int .i64 0, .int .i64 0, .int .i64 0, .float .f64 0, .string ByteArray.empty, .slice none 0 0, .slice none 0 0, .slice none 0 0], .bool false]) w := by kernel_rfl
theorem as_do_yes (v : Value) (w : World) : Sem.run Try.prog (Instr.typeAssert (.iface 90 v) 56 90 true) w = .ok (.tuple #[v, .bool true]) w := by kernel_rfl
theorem as_do_no {t : TypeId} (h : t ≠ 90) (v : Value) (w : World) : Sem.run Try.prog (Instr.typeAssert (.iface t v) 56 90 true) w = .ok (.tuple #[.agg #[.int .i64 0, .int .i64 0, .int .i64 0, .int .i64 0, .int .i64 0, .int .i64 0, .int .i64 0, .float .f64 0, .string ByteArray.empty, .slice none 0 0, .slice none 0 0, .slice none 0 0], .bool false]) w := by
  rw [as_do_if, if_neg h]; exact as_do_z w
theorem as_if_if (t : TypeId) (v : Value) (w : World) : Sem.run Try.prog (Instr.typeAssert (.iface t v) 56 91 true) w = Sem.run Try.prog (if t = 91 then pure (.tuple #[v, .bool true]) else (do let z ← zeroValue 91; pure (.tuple #[z, .bool false]))) w := by kernel_rfl
theorem as_if_z (w : World) : Sem.run Try.prog (do let z ← zeroValue 91; pure (Value.tuple #[z, .bool false])) w = .ok (Value.tuple #[.agg #[.int .i64 0, .int .i64 0, .int .i64 0, .int .i64 0, .int .i64 0, .int .i64 0, .int .i64 0, .float .f64 0, .string ByteArray.empty, .slice none 0 0, .slice none 0 0, .slice none 0 0], .bool false]) w := by kernel_rfl
theorem as_if_yes (v : Value) (w : World) : Sem.run Try.prog (Instr.typeAssert (.iface 91 v) 56 91 true) w = .ok (.tuple #[v, .bool true]) w := by kernel_rfl
theorem as_if_no {t : TypeId} (h : t ≠ 91) (v : Value) (w : World) : Sem.run Try.prog (Instr.typeAssert (.iface t v) 56 91 true) w = .ok (.tuple #[.agg #[.int .i64 0, .int .i64 0, .int .i64 0, .int .i64 0, .int .i64 0, .int .i64 0, .int .i64 0, .float .f64 0, .string ByteArray.empty, .slice none 0 0, .slice none 0 0, .slice none 0 0], .bool false]) w := by
  rw [as_if_if, if_neg h]; exact as_if_z w
theorem as_while_if (t : TypeId) (v : Value) (w : World) : Sem.run Try.prog (Instr.typeAssert (.iface t v) 56 92 true) w = Sem.run Try.prog (if t = 92 then pure (.tuple #[v, .bool true]) else (do let z ← zeroValue 92; pure (.tuple #[z, .bool false]))) w := by kernel_rfl
theorem as_while_z (w : World) : Sem.run Try.prog (do let z ← zeroValue 92; pure (Value.tuple #[z, .bool false])) w = .ok (Value.tuple #[.agg #[.int .i64 0, .int .i64 0, .int .i64 0, .int .i64 0, .int .i64 0, .int .i64 0, .int .i64 0, .float .f64 0, .string ByteArray.empty, .slice none 0 0, .slice none 0 0, .slice none 0 0], .bool false]) w := by kernel_rfl
theorem as_while_yes (v : Value) (w : World) : Sem.run Try.prog (Instr.typeAssert (.iface 92 v) 56 92 true) w = .ok (.tuple #[v, .bool true]) w := by kernel_rfl
theorem as_while_no {t : TypeId} (h : t ≠ 92) (v : Value) (w : World) : Sem.run Try.prog (Instr.typeAssert (.iface t v) 56 92 true) w = .ok (.tuple #[.agg #[.int .i64 0, .int .i64 0, .int .i64 0, .int .i64 0, .int .i64 0, .int .i64 0, .int .i64 0, .float .f64 0, .string ByteArray.empty, .slice none 0 0, .slice none 0 0, .slice none 0 0], .bool false]) w := by
  rw [as_while_if, if_neg h]; exact as_while_z w
theorem as_for_if (t : TypeId) (v : Value) (w : World) : Sem.run Try.prog (Instr.typeAssert (.iface t v) 56 93 true) w = Sem.run Try.prog (if t = 93 then pure (.tuple #[v, .bool true]) else (do let z ← zeroValue 93; pure (.tuple #[z, .bool false]))) w := by kernel_rfl
theorem as_for_z (w : World) : Sem.run Try.prog (do let z ← zeroValue 93; pure (Value.tuple #[z, .bool false])) w = .ok (Value.tuple #[.agg #[.int .i64 0, .int .i64 0, .int .i64 0, .int .i64 0, .int .i64 0, .int .i64 0, .int .i64 0, .float .f64 0, .string ByteArray.empty, .slice none 0 0, .slice none 0 0, .slice none 0 0], .bool false]) w := by kernel_rfl
theorem as_for_yes (v : Value) (w : World) : Sem.run Try.prog (Instr.typeAssert (.iface 93 v) 56 93 true) w = .ok (.tuple #[v, .bool true]) w := by kernel_rfl
theorem as_for_no {t : TypeId} (h : t ≠ 93) (v : Value) (w : World) : Sem.run Try.prog (Instr.typeAssert (.iface t v) 56 93 true) w = .ok (.tuple #[.agg #[.int .i64 0, .int .i64 0, .int .i64 0, .int .i64 0, .int .i64 0, .int .i64 0, .int .i64 0, .float .f64 0, .string ByteArray.empty, .slice none 0 0, .slice none 0 0, .slice none 0 0], .bool false]) w := by
  rw [as_for_if, if_neg h]; exact as_for_z w
theorem as_each_if (t : TypeId) (v : Value) (w : World) : Sem.run Try.prog (Instr.typeAssert (.iface t v) 56 94 true) w = Sem.run Try.prog (if t = 94 then pure (.tuple #[v, .bool true]) else (do let z ← zeroValue 94; pure (.tuple #[z, .bool false]))) w := by kernel_rfl
theorem as_each_z (w : World) : Sem.run Try.prog (do let z ← zeroValue 94; pure (Value.tuple #[z, .bool false])) w = .ok (Value.tuple #[.agg #[.int .i64 0, .int .i64 0, .int .i64 0, .int .i64 0, .int .i64 0, .int .i64 0, .int .i64 0, .float .f64 0, .string ByteArray.empty, .slice none 0 0, .slice none 0 0, .slice none 0 0], .bool false]) w := by kernel_rfl
theorem as_each_yes (v : Value) (w : World) : Sem.run Try.prog (Instr.typeAssert (.iface 94 v) 56 94 true) w = .ok (.tuple #[v, .bool true]) w := by kernel_rfl
theorem as_each_no {t : TypeId} (h : t ≠ 94) (v : Value) (w : World) : Sem.run Try.prog (Instr.typeAssert (.iface t v) 56 94 true) w = .ok (.tuple #[.agg #[.int .i64 0, .int .i64 0, .int .i64 0, .int .i64 0, .int .i64 0, .int .i64 0, .int .i64 0, .float .f64 0, .string ByteArray.empty, .slice none 0 0, .slice none 0 0, .slice none 0 0], .bool false]) w := by
  rw [as_each_if, if_neg h]; exact as_each_z w
theorem as_jump_if (t : TypeId) (v : Value) (w : World) : Sem.run Try.prog (Instr.typeAssert (.iface t v) 56 95 true) w = Sem.run Try.prog (if t = 95 then pure (.tuple #[v, .bool true]) else (do let z ← zeroValue 95; pure (.tuple #[z, .bool false]))) w := by kernel_rfl
theorem as_jump_z (w : World) : Sem.run Try.prog (do let z ← zeroValue 95; pure (Value.tuple #[z, .bool false])) w = .ok (Value.tuple #[.agg #[.int .i64 0, .int .i64 0, .int .i64 0, .int .i64 0, .int .i64 0, .int .i64 0, .int .i64 0, .float .f64 0, .string ByteArray.empty, .slice none 0 0, .slice none 0 0, .slice none 0 0], .bool false]) w := by kernel_rfl
theorem as_jump_yes (v : Value) (w : World) : Sem.run Try.prog (Instr.typeAssert (.iface 95 v) 56 95 true) w = .ok (.tuple #[v, .bool true]) w := by kernel_rfl
theorem as_jump_no {t : TypeId} (h : t ≠ 95) (v : Value) (w : World) : Sem.run Try.prog (Instr.typeAssert (.iface t v) 56 95 true) w = .ok (.tuple #[.agg #[.int .i64 0, .int .i64 0, .int .i64 0, .int .i64 0, .int .i64 0, .int .i64 0, .int .i64 0, .float .f64 0, .string ByteArray.empty, .slice none 0 0, .slice none 0 0, .slice none 0 0], .bool false]) w := by
  rw [as_jump_if, if_neg h]; exact as_jump_z w
theorem as_return_if (t : TypeId) (v : Value) (w : World) : Sem.run Try.prog (Instr.typeAssert (.iface t v) 56 96 true) w = Sem.run Try.prog (if t = 96 then pure (.tuple #[v, .bool true]) else (do let z ← zeroValue 96; pure (.tuple #[z, .bool false]))) w := by kernel_rfl
theorem as_return_z (w : World) : Sem.run Try.prog (do let z ← zeroValue 96; pure (Value.tuple #[z, .bool false])) w = .ok (Value.tuple #[.agg #[.int .i64 0, .int .i64 0, .int .i64 0, .int .i64 0, .int .i64 0, .int .i64 0, .int .i64 0, .float .f64 0, .string ByteArray.empty, .slice none 0 0, .slice none 0 0, .slice none 0 0], .bool false]) w := by kernel_rfl
theorem as_return_yes (v : Value) (w : World) : Sem.run Try.prog (Instr.typeAssert (.iface 96 v) 56 96 true) w = .ok (.tuple #[v, .bool true]) w := by kernel_rfl
theorem as_return_no {t : TypeId} (h : t ≠ 96) (v : Value) (w : World) : Sem.run Try.prog (Instr.typeAssert (.iface t v) 56 96 true) w = .ok (.tuple #[.agg #[.int .i64 0, .int .i64 0, .int .i64 0, .int .i64 0, .int .i64 0, .int .i64 0, .int .i64 0, .float .f64 0, .string ByteArray.empty, .slice none 0 0, .slice none 0 0, .slice none 0 0], .bool false]) w := by
  rw [as_return_if, if_neg h]; exact as_return_z w
theorem as_try_if (t : TypeId) (v : Value) (w : World) : Sem.run Try.prog (Instr.typeAssert (.iface t v) 56 97 true) w = Sem.run Try.prog (if t = 97 then pure (.tuple #[v, .bool true]) else (do let z ← zeroValue 97; pure (.tuple #[z, .bool false]))) w := by kernel_rfl
theorem as_try_z (w : World) : Sem.run Try.prog (do let z ← zeroValue 97; pure (Value.tuple #[z, .bool false])) w = .ok (Value.tuple #[.agg #[.int .i64 0, .int .i64 0, .int .i64 0, .int .i64 0, .int .i64 0, .int .i64 0, .int .i64 0, .float .f64 0, .string ByteArray.empty, .slice none 0 0, .slice none 0 0, .slice none 0 0], .bool false]) w := by kernel_rfl
theorem as_try_yes (v : Value) (w : World) : Sem.run Try.prog (Instr.typeAssert (.iface 97 v) 56 97 true) w = .ok (.tuple #[v, .bool true]) w := by kernel_rfl
theorem as_try_no {t : TypeId} (h : t ≠ 97) (v : Value) (w : World) : Sem.run Try.prog (Instr.typeAssert (.iface t v) 56 97 true) w = .ok (.tuple #[.agg #[.int .i64 0, .int .i64 0, .int .i64 0, .int .i64 0, .int .i64 0, .int .i64 0, .int .i64 0, .float .f64 0, .string ByteArray.empty, .slice none 0 0, .slice none 0 0, .slice none 0 0], .bool false]) w := by
  rw [as_try_if, if_neg h]; exact as_try_z w
theorem as_throw_if (t : TypeId) (v : Value) (w : World) : Sem.run Try.prog (Instr.typeAssert (.iface t v) 56 98 true) w = Sem.run Try.prog (if t = 98 then pure (.tuple #[v, .bool true]) else (do let z ← zeroValue 98; pure (.tuple #[z, .bool false]))) w := by kernel_rfl
theorem as_throw_z (w : World) : Sem.run Try.prog (do let z ← zeroValue 98; pure (Value.tuple #[z, .bool false])) w = .ok (Value.tuple #[.agg #[.int .i64 0, .int .i64 0, .int .i64 0, .int .i64 0, .int .i64 0, .int .i64 0, .int .i64 0, .float .f64 0, .string ByteArray.empty, .slice none 0 0, .slice none 0 0, .slice none 0 0], .bool false]) w := by kernel_rfl
theorem as_throw_yes (v : Value) (w : World) : Sem.run Try.prog (Instr.typeAssert (.iface 98 v) 56 98 true) w = .ok (.tuple #[v, .bool true]) w := by kernel_rfl
theorem as_throw_no {t : TypeId} (h : t ≠ 98) (v : Value) (w : World) : Sem.run Try.prog (Instr.typeAssert (.iface t v) 56 98 true) w = .ok (.tuple #[.agg #[.int .i64 0, .int .i64 0, .int .i64 0, .int .i64 0, .int .i64 0, .int .i64 0, .int .i64 0, .float .f64 0, .string ByteArray.empty, .slice none 0 0, .slice none 0 0, .slice none 0 0], .bool false]) w := by
  rw [as_throw_if, if_neg h]; exact as_throw_z w
theorem as_bare_if (t : TypeId) (v : Value) (w : World) : Sem.run Try.prog (Instr.typeAssert (.iface t v) 56 100 true) w = Sem.run Try.prog (if t = 100 then pure (.tuple #[v, .bool true]) else (do let z ← zeroValue 100; pure (.tuple #[z, .bool false]))) w := by kernel_rfl
theorem as_bare_z (w : World) : Sem.run Try.prog (do let z ← zeroValue 100; pure (Value.tuple #[z, .bool false])) w = .ok (Value.tuple #[.agg #[.int .i64 0, .int .i64 0, .int .i64 0, .int .i64 0, .int .i64 0, .int .i64 0, .int .i64 0, .float .f64 0, .string ByteArray.empty, .slice none 0 0, .slice none 0 0, .slice none 0 0], .bool false]) w := by kernel_rfl
theorem as_bare_yes (v : Value) (w : World) : Sem.run Try.prog (Instr.typeAssert (.iface 100 v) 56 100 true) w = .ok (.tuple #[v, .bool true]) w := by kernel_rfl
theorem as_bare_no {t : TypeId} (h : t ≠ 100) (v : Value) (w : World) : Sem.run Try.prog (Instr.typeAssert (.iface t v) 56 100 true) w = .ok (.tuple #[.agg #[.int .i64 0, .int .i64 0, .int .i64 0, .int .i64 0, .int .i64 0, .int .i64 0, .int .i64 0, .float .f64 0, .string ByteArray.empty, .slice none 0 0, .slice none 0 0, .slice none 0 0], .bool false]) w := by
  rw [as_bare_if, if_neg h]; exact as_bare_z w
theorem as_int_if (t : TypeId) (v : Value) (w : World) : Sem.run Try.prog (Instr.typeAssert (.iface t v) 56 102 true) w = Sem.run Try.prog (if t = 102 then pure (.tuple #[v, .bool true]) else (do let z ← zeroValue 102; pure (.tuple #[z, .bool false]))) w := by kernel_rfl
theorem as_int_z (w : World) : Sem.run Try.prog (do let z ← zeroValue 102; pure (Value.tuple #[z, .bool false])) w = .ok (Value.tuple #[.agg #[.int .i64 0, .int .i64 0, .int .i64 0, .int .i64 0, .int .i64 0, .int .i64 0, .int .i64 0, .float .f64 0, .string ByteArray.empty, .slice none 0 0, .slice none 0 0, .slice none 0 0], .bool false]) w := by kernel_rfl
theorem as_int_yes (v : Value) (w : World) : Sem.run Try.prog (Instr.typeAssert (.iface 102 v) 56 102 true) w = .ok (.tuple #[v, .bool true]) w := by kernel_rfl
theorem as_int_no {t : TypeId} (h : t ≠ 102) (v : Value) (w : World) : Sem.run Try.prog (Instr.typeAssert (.iface t v) 56 102 true) w = .ok (.tuple #[.agg #[.int .i64 0, .int .i64 0, .int .i64 0, .int .i64 0, .int .i64 0, .int .i64 0, .int .i64 0, .float .f64 0, .string ByteArray.empty, .slice none 0 0, .slice none 0 0, .slice none 0 0], .bool false]) w := by
  rw [as_int_if, if_neg h]; exact as_int_z w
theorem as_flt_if (t : TypeId) (v : Value) (w : World) : Sem.run Try.prog (Instr.typeAssert (.iface t v) 56 103 true) w = Sem.run Try.prog (if t = 103 then pure (.tuple #[v, .bool true]) else (do let z ← zeroValue 103; pure (.tuple #[z, .bool false]))) w := by kernel_rfl
theorem as_flt_z (w : World) : Sem.run Try.prog (do let z ← zeroValue 103; pure (Value.tuple #[z, .bool false])) w = .ok (Value.tuple #[.agg #[.int .i64 0, .int .i64 0, .int .i64 0, .int .i64 0, .int .i64 0, .int .i64 0, .int .i64 0, .float .f64 0, .string ByteArray.empty, .slice none 0 0, .slice none 0 0, .slice none 0 0], .bool false]) w := by kernel_rfl
theorem as_flt_yes (v : Value) (w : World) : Sem.run Try.prog (Instr.typeAssert (.iface 103 v) 56 103 true) w = .ok (.tuple #[v, .bool true]) w := by kernel_rfl
theorem as_flt_no {t : TypeId} (h : t ≠ 103) (v : Value) (w : World) : Sem.run Try.prog (Instr.typeAssert (.iface t v) 56 103 true) w = .ok (.tuple #[.agg #[.int .i64 0, .int .i64 0, .int .i64 0, .int .i64 0, .int .i64 0, .int .i64 0, .int .i64 0, .float .f64 0, .string ByteArray.empty, .slice none 0 0, .slice none 0 0, .slice none 0 0], .bool false]) w := by
  rw [as_flt_if, if_neg h]; exact as_flt_z w
theorem as_str_if (t : TypeId) (v : Value) (w : World) : Sem.run Try.prog (Instr.typeAssert (.iface t v) 56 105 true) w = Sem.run Try.prog (if t = 105 then pure (.tuple #[v, .bool true]) else (do let z ← zeroValue 105; pure (.tuple #[z, .bool false]))) w := by kernel_rfl
theorem as_str_z (w : World) : Sem.run Try.prog (do let z ← zeroValue 105; pure (Value.tuple #[z, .bool false])) w = .ok (Value.tuple #[.agg #[.int .i64 0, .int .i64 0, .int .i64 0, .int .i64 0, .int .i64 0, .int .i64 0, .int .i64 0, .float .f64 0, .string ByteArray.empty, .slice none 0 0, .slice none 0 0, .slice none 0 0], .bool false]) w := by kernel_rfl
theorem as_str_yes (v : Value) (w : World) : Sem.run Try.prog (Instr.typeAssert (.iface 105 v) 56 105 true) w = .ok (.tuple #[v, .bool true]) w := by kernel_rfl
theorem as_str_no {t : TypeId} (h : t ≠ 105) (v : Value) (w : World) : Sem.run Try.prog (Instr.typeAssert (.iface t v) 56 105 true) w = .ok (.tuple #[.agg #[.int .i64 0, .int .i64 0, .int .i64 0, .int .i64 0, .int .i64 0, .int .i64 0, .int .i64 0, .float .f64 0, .string ByteArray.empty, .slice none 0 0, .slice none 0 0, .slice none 0 0], .bool false]) w := by
  rw [as_str_if, if_neg h]; exact as_str_z w
theorem as_name_if (t : TypeId) (v : Value) (w : World) : Sem.run Try.prog (Instr.typeAssert (.iface t v) 56 106 true) w = Sem.run Try.prog (if t = 106 then pure (.tuple #[v, .bool true]) else (do let z ← zeroValue 106; pure (.tuple #[z, .bool false]))) w := by kernel_rfl
theorem as_name_z (w : World) : Sem.run Try.prog (do let z ← zeroValue 106; pure (Value.tuple #[z, .bool false])) w = .ok (Value.tuple #[.agg #[.int .i64 0, .int .i64 0, .int .i64 0, .int .i64 0, .int .i64 0, .int .i64 0, .int .i64 0, .float .f64 0, .string ByteArray.empty, .slice none 0 0, .slice none 0 0, .slice none 0 0], .bool false]) w := by kernel_rfl
theorem as_name_yes (v : Value) (w : World) : Sem.run Try.prog (Instr.typeAssert (.iface 106 v) 56 106 true) w = .ok (.tuple #[v, .bool true]) w := by kernel_rfl
theorem as_name_no {t : TypeId} (h : t ≠ 106) (v : Value) (w : World) : Sem.run Try.prog (Instr.typeAssert (.iface t v) 56 106 true) w = .ok (.tuple #[.agg #[.int .i64 0, .int .i64 0, .int .i64 0, .int .i64 0, .int .i64 0, .int .i64 0, .int .i64 0, .float .f64 0, .string ByteArray.empty, .slice none 0 0, .slice none 0 0, .slice none 0 0], .bool false]) w := by
  rw [as_name_if, if_neg h]; exact as_name_z w
theorem as_rest_if (t : TypeId) (v : Value) (w : World) : Sem.run Try.prog (Instr.typeAssert (.iface t v) 56 101 true) w = Sem.run Try.prog (if t = 101 then pure (.tuple #[v, .bool true]) else (do let z ← zeroValue 101; pure (.tuple #[z, .bool false]))) w := by kernel_rfl
theorem as_rest_z (w : World) : Sem.run Try.prog (do let z ← zeroValue 101; pure (Value.tuple #[z, .bool false])) w = .ok (Value.tuple #[.agg #[.int .i64 0, .int .i64 0, .int .i64 0, .int .i64 0, .int .i64 0, .int .i64 0, .int .i64 0, .float .f64 0, .string ByteArray.empty, .slice none 0 0, .slice none 0 0, .slice none 0 0], .bool false]) w := by kernel_rfl
theorem as_rest_yes (v : Value) (w : World) : Sem.run Try.prog (Instr.typeAssert (.iface 101 v) 56 101 true) w = .ok (.tuple #[v, .bool true]) w := by kernel_rfl
theorem as_rest_no {t : TypeId} (h : t ≠ 101) (v : Value) (w : World) : Sem.run Try.prog (Instr.typeAssert (.iface t v) 56 101 true) w = .ok (.tuple #[.agg #[.int .i64 0, .int .i64 0, .int .i64 0, .int .i64 0, .int .i64 0, .int .i64 0, .int .i64 0, .float .f64 0, .string ByteArray.empty, .slice none 0 0, .slice none 0 0, .slice none 0 0], .bool false]) w := by
  rw [as_rest_if, if_neg h]; exact as_rest_z w
theorem as_either_if (t : TypeId) (v : Value) (w : World) : Sem.run Try.prog (Instr.typeAssert (.iface t v) 56 107 true) w = Sem.run Try.prog (if t = 107 then pure (.tuple #[v, .bool true]) else (do let z ← zeroValue 107; pure (.tuple #[z, .bool false]))) w := by kernel_rfl
theorem as_either_z (w : World) : Sem.run Try.prog (do let z ← zeroValue 107; pure (Value.tuple #[z, .bool false])) w = .ok (Value.tuple #[.agg #[.int .i64 0, .int .i64 0, .int .i64 0, .int .i64 0, .int .i64 0, .int .i64 0, .int .i64 0, .float .f64 0, .string ByteArray.empty, .slice none 0 0, .slice none 0 0, .slice none 0 0], .bool false]) w := by kernel_rfl
theorem as_either_yes (v : Value) (w : World) : Sem.run Try.prog (Instr.typeAssert (.iface 107 v) 56 107 true) w = .ok (.tuple #[v, .bool true]) w := by kernel_rfl
theorem as_either_no {t : TypeId} (h : t ≠ 107) (v : Value) (w : World) : Sem.run Try.prog (Instr.typeAssert (.iface t v) 56 107 true) w = .ok (.tuple #[.agg #[.int .i64 0, .int .i64 0, .int .i64 0, .int .i64 0, .int .i64 0, .int .i64 0, .int .i64 0, .float .f64 0, .string ByteArray.empty, .slice none 0 0, .slice none 0 0, .slice none 0 0], .bool false]) w := by
  rw [as_either_if, if_neg h]; exact as_either_z w
theorem as_unary_if (t : TypeId) (v : Value) (w : World) : Sem.run Try.prog (Instr.typeAssert (.iface t v) 56 108 true) w = Sem.run Try.prog (if t = 108 then pure (.tuple #[v, .bool true]) else (do let z ← zeroValue 108; pure (.tuple #[z, .bool false]))) w := by kernel_rfl
theorem as_unary_z (w : World) : Sem.run Try.prog (do let z ← zeroValue 108; pure (Value.tuple #[z, .bool false])) w = .ok (Value.tuple #[.agg #[.int .i64 0, .int .i64 0, .int .i64 0, .int .i64 0, .int .i64 0, .int .i64 0, .int .i64 0, .float .f64 0, .string ByteArray.empty, .slice none 0 0, .slice none 0 0, .slice none 0 0], .bool false]) w := by kernel_rfl
theorem as_unary_yes (v : Value) (w : World) : Sem.run Try.prog (Instr.typeAssert (.iface 108 v) 56 108 true) w = .ok (.tuple #[v, .bool true]) w := by kernel_rfl
theorem as_unary_no {t : TypeId} (h : t ≠ 108) (v : Value) (w : World) : Sem.run Try.prog (Instr.typeAssert (.iface t v) 56 108 true) w = .ok (.tuple #[.agg #[.int .i64 0, .int .i64 0, .int .i64 0, .int .i64 0, .int .i64 0, .int .i64 0, .int .i64 0, .float .f64 0, .string ByteArray.empty, .slice none 0 0, .slice none 0 0, .slice none 0 0], .bool false]) w := by
  rw [as_unary_if, if_neg h]; exact as_unary_z w
theorem as_binary_if (t : TypeId) (v : Value) (w : World) : Sem.run Try.prog (Instr.typeAssert (.iface t v) 56 109 true) w = Sem.run Try.prog (if t = 109 then pure (.tuple #[v, .bool true]) else (do let z ← zeroValue 109; pure (.tuple #[z, .bool false]))) w := by kernel_rfl
theorem as_binary_z (w : World) : Sem.run Try.prog (do let z ← zeroValue 109; pure (Value.tuple #[z, .bool false])) w = .ok (Value.tuple #[.agg #[.int .i64 0, .int .i64 0, .int .i64 0, .int .i64 0, .int .i64 0, .int .i64 0, .int .i64 0, .float .f64 0, .string ByteArray.empty, .slice none 0 0, .slice none 0 0, .slice none 0 0], .bool false]) w := by kernel_rfl
theorem as_binary_yes (v : Value) (w : World) : Sem.run Try.prog (Instr.typeAssert (.iface 109 v) 56 109 true) w = .ok (.tuple #[v, .bool true]) w := by kernel_rfl
theorem as_binary_no {t : TypeId} (h : t ≠ 109) (v : Value) (w : World) : Sem.run Try.prog (Instr.typeAssert (.iface t v) 56 109 true) w = .ok (.tuple #[.agg #[.int .i64 0, .int .i64 0, .int .i64 0, .int .i64 0, .int .i64 0, .int .i64 0, .int .i64 0, .float .f64 0, .string ByteArray.empty, .slice none 0 0, .slice none 0 0, .slice none 0 0], .bool false]) w := by
  rw [as_binary_if, if_neg h]; exact as_binary_z w
theorem as_index_if (t : TypeId) (v : Value) (w : World) : Sem.run Try.prog (Instr.typeAssert (.iface t v) 56 110 true) w = Sem.run Try.prog (if t = 110 then pure (.tuple #[v, .bool true]) else (do let z ← zeroValue 110; pure (.tuple #[z, .bool false]))) w := by kernel_rfl
theorem as_index_z (w : World) : Sem.run Try.prog (do let z ← zeroValue 110; pure (Value.tuple #[z, .bool false])) w = .ok (Value.tuple #[.agg #[.int .i64 0, .int .i64 0, .int .i64 0, .int .i64 0, .int .i64 0, .int .i64 0, .int .i64 0, .float .f64 0, .string ByteArray.empty, .slice none 0 0, .slice none 0 0, .slice none 0 0], .bool false]) w := by kernel_rfl
theorem as_index_yes (v : Value) (w : World) : Sem.run Try.prog (Instr.typeAssert (.iface 110 v) 56 110 true) w = .ok (.tuple #[v, .bool true]) w := by kernel_rfl
theorem as_index_no {t : TypeId} (h : t ≠ 110) (v : Value) (w : World) : Sem.run Try.prog (Instr.typeAssert (.iface t v) 56 110 true) w = .ok (.tuple #[.agg #[.int .i64 0, .int .i64 0, .int .i64 0, .int .i64 0, .int .i64 0, .int .i64 0, .int .i64 0, .float .f64 0, .string ByteArray.empty, .slice none 0 0, .slice none 0 0, .slice none 0 0], .bool false]) w := by
  rw [as_index_if, if_neg h]; exact as_index_z w
theorem as_field_if (t : TypeId) (v : Value) (w : World) : Sem.run Try.prog (Instr.typeAssert (.iface t v) 56 111 true) w = Sem.run Try.prog (if t = 111 then pure (.tuple #[v, .bool true]) else (do let z ← zeroValue 111; pure (.tuple #[z, .bool false]))) w := by kernel_rfl
theorem as_field_z (w : World) : Sem.run Try.prog (do let z ← zeroValue 111; pure (Value.tuple #[z, .bool false])) w = .ok (Value.tuple #[.agg #[.int .i64 0, .int .i64 0, .int .i64 0, .int .i64 0, .int .i64 0, .int .i64 0, .int .i64 0, .float .f64 0, .string ByteArray.empty, .slice none 0 0, .slice none 0 0, .slice none 0 0], .bool false]) w := by kernel_rfl
theorem as_field_yes (v : Value) (w : World) : Sem.run Try.prog (Instr.typeAssert (.iface 111 v) 56 111 true) w = .ok (.tuple #[v, .bool true]) w := by kernel_rfl
theorem as_field_no {t : TypeId} (h : t ≠ 111) (v : Value) (w : World) : Sem.run Try.prog (Instr.typeAssert (.iface t v) 56 111 true) w = .ok (.tuple #[.agg #[.int .i64 0, .int .i64 0, .int .i64 0, .int .i64 0, .int .i64 0, .int .i64 0, .int .i64 0, .float .f64 0, .string ByteArray.empty, .slice none 0 0, .slice none 0 0, .slice none 0 0], .bool false]) w := by
  rw [as_field_if, if_neg h]; exact as_field_z w
theorem as_call_if (t : TypeId) (v : Value) (w : World) : Sem.run Try.prog (Instr.typeAssert (.iface t v) 56 112 true) w = Sem.run Try.prog (if t = 112 then pure (.tuple #[v, .bool true]) else (do let z ← zeroValue 112; pure (.tuple #[z, .bool false]))) w := by kernel_rfl
theorem as_call_z (w : World) : Sem.run Try.prog (do let z ← zeroValue 112; pure (Value.tuple #[z, .bool false])) w = .ok (Value.tuple #[.agg #[.int .i64 0, .int .i64 0, .int .i64 0, .int .i64 0, .int .i64 0, .int .i64 0, .int .i64 0, .float .f64 0, .string ByteArray.empty, .slice none 0 0, .slice none 0 0, .slice none 0 0], .bool false]) w := by kernel_rfl
theorem as_call_yes (v : Value) (w : World) : Sem.run Try.prog (Instr.typeAssert (.iface 112 v) 56 112 true) w = .ok (.tuple #[v, .bool true]) w := by kernel_rfl
theorem as_call_no {t : TypeId} (h : t ≠ 112) (v : Value) (w : World) : Sem.run Try.prog (Instr.typeAssert (.iface t v) 56 112 true) w = .ok (.tuple #[.agg #[.int .i64 0, .int .i64 0, .int .i64 0, .int .i64 0, .int .i64 0, .int .i64 0, .int .i64 0, .float .f64 0, .string ByteArray.empty, .slice none 0 0, .slice none 0 0, .slice none 0 0], .bool false]) w := by
  rw [as_call_if, if_neg h]; exact as_call_z w
theorem as_table_if (t : TypeId) (v : Value) (w : World) : Sem.run Try.prog (Instr.typeAssert (.iface t v) 56 113 true) w = Sem.run Try.prog (if t = 113 then pure (.tuple #[v, .bool true]) else (do let z ← zeroValue 113; pure (.tuple #[z, .bool false]))) w := by kernel_rfl
theorem as_table_z (w : World) : Sem.run Try.prog (do let z ← zeroValue 113; pure (Value.tuple #[z, .bool false])) w = .ok (Value.tuple #[.agg #[.int .i64 0, .int .i64 0, .int .i64 0, .int .i64 0, .int .i64 0, .int .i64 0, .int .i64 0, .float .f64 0, .string ByteArray.empty, .slice none 0 0, .slice none 0 0, .slice none 0 0], .bool false]) w := by kernel_rfl
theorem as_table_yes (v : Value) (w : World) : Sem.run Try.prog (Instr.typeAssert (.iface 113 v) 56 113 true) w = .ok (.tuple #[v, .bool true]) w := by kernel_rfl
theorem as_table_no {t : TypeId} (h : t ≠ 113) (v : Value) (w : World) : Sem.run Try.prog (Instr.typeAssert (.iface t v) 56 113 true) w = .ok (.tuple #[.agg #[.int .i64 0, .int .i64 0, .int .i64 0, .int .i64 0, .int .i64 0, .int .i64 0, .int .i64 0, .float .f64 0, .string ByteArray.empty, .slice none 0 0, .slice none 0 0, .slice none 0 0], .bool false]) w := by
  rw [as_table_if, if_neg h]; exact as_table_z w
theorem as_fn_if (t : TypeId) (v : Value) (w : World) : Sem.run Try.prog (Instr.typeAssert (.iface t v) 56 114 true) w = Sem.run Try.prog (if t = 114 then pure (.tuple #[v, .bool true]) else (do let z ← zeroValue 114; pure (.tuple #[z, .bool false]))) w := by kernel_rfl
theorem as_fn_z (w : World) : Sem.run Try.prog (do let z ← zeroValue 114; pure (Value.tuple #[z, .bool false])) w = .ok (Value.tuple #[.agg #[.int .i64 0, .int .i64 0, .int .i64 0, .int .i64 0, .int .i64 0, .int .i64 0, .int .i64 0, .float .f64 0, .string ByteArray.empty, .slice none 0 0, .slice none 0 0, .slice none 0 0], .bool false]) w := by kernel_rfl
theorem as_fn_yes (v : Value) (w : World) : Sem.run Try.prog (Instr.typeAssert (.iface 114 v) 56 114 true) w = .ok (.tuple #[v, .bool true]) w := by kernel_rfl
theorem as_fn_no {t : TypeId} (h : t ≠ 114) (v : Value) (w : World) : Sem.run Try.prog (Instr.typeAssert (.iface t v) 56 114 true) w = .ok (.tuple #[.agg #[.int .i64 0, .int .i64 0, .int .i64 0, .int .i64 0, .int .i64 0, .int .i64 0, .int .i64 0, .float .f64 0, .string ByteArray.empty, .slice none 0 0, .slice none 0 0, .slice none 0 0], .bool false]) w := by
  rw [as_fn_if, if_neg h]; exact as_fn_z w
theorem as_one_if (t : TypeId) (v : Value) (w : World) : Sem.run Try.prog (Instr.typeAssert (.iface t v) 56 116 true) w = Sem.run Try.prog (if t = 116 then pure (.tuple #[v, .bool true]) else (do let z ← zeroValue 116; pure (.tuple #[z, .bool false]))) w := by kernel_rfl
theorem as_one_z (w : World) : Sem.run Try.prog (do let z ← zeroValue 116; pure (Value.tuple #[z, .bool false])) w = .ok (Value.tuple #[.agg #[.int .i64 0, .int .i64 0, .int .i64 0, .int .i64 0, .int .i64 0, .int .i64 0, .int .i64 0, .float .f64 0, .string ByteArray.empty, .slice none 0 0, .slice none 0 0, .slice none 0 0], .bool false]) w := by kernel_rfl
theorem as_one_yes (v : Value) (w : World) : Sem.run Try.prog (Instr.typeAssert (.iface 116 v) 56 116 true) w = .ok (.tuple #[v, .bool true]) w := by kernel_rfl
theorem as_one_no {t : TypeId} (h : t ≠ 116) (v : Value) (w : World) : Sem.run Try.prog (Instr.typeAssert (.iface t v) 56 116 true) w = .ok (.tuple #[.agg #[.int .i64 0, .int .i64 0, .int .i64 0, .int .i64 0, .int .i64 0, .int .i64 0, .int .i64 0, .float .f64 0, .string ByteArray.empty, .slice none 0 0, .slice none 0 0, .slice none 0 0], .bool false]) w := by
  rw [as_one_if, if_neg h]; exact as_one_z w
theorem as_item_if (t : TypeId) (v : Value) (w : World) : Sem.run Try.prog (Instr.typeAssert (.iface t v) 56 119 true) w = Sem.run Try.prog (if t = 119 then pure (.tuple #[v, .bool true]) else (do let z ← zeroValue 119; pure (.tuple #[z, .bool false]))) w := by kernel_rfl
theorem as_item_z (w : World) : Sem.run Try.prog (do let z ← zeroValue 119; pure (Value.tuple #[z, .bool false])) w = .ok (Value.tuple #[.agg #[.int .i64 0, .int .i64 0, .int .i64 0, .int .i64 0, .int .i64 0, .int .i64 0, .int .i64 0, .float .f64 0, .string ByteArray.empty, .slice none 0 0, .slice none 0 0, .slice none 0 0], .bool false]) w := by kernel_rfl
theorem as_item_yes (v : Value) (w : World) : Sem.run Try.prog (Instr.typeAssert (.iface 119 v) 56 119 true) w = .ok (.tuple #[v, .bool true]) w := by kernel_rfl
theorem as_item_no {t : TypeId} (h : t ≠ 119) (v : Value) (w : World) : Sem.run Try.prog (Instr.typeAssert (.iface t v) 56 119 true) w = .ok (.tuple #[.agg #[.int .i64 0, .int .i64 0, .int .i64 0, .int .i64 0, .int .i64 0, .int .i64 0, .int .i64 0, .float .f64 0, .string ByteArray.empty, .slice none 0 0, .slice none 0 0, .slice none 0 0], .bool false]) w := by
  rw [as_item_if, if_neg h]; exact as_item_z w
theorem as_pair_if (t : TypeId) (v : Value) (w : World) : Sem.run Try.prog (Instr.typeAssert (.iface t v) 56 120 true) w = Sem.run Try.prog (if t = 120 then pure (.tuple #[v, .bool true]) else (do let z ← zeroValue 120; pure (.tuple #[z, .bool false]))) w := by kernel_rfl
theorem as_pair_z (w : World) : Sem.run Try.prog (do let z ← zeroValue 120; pure (Value.tuple #[z, .bool false])) w = .ok (Value.tuple #[.agg #[.int .i64 0, .int .i64 0, .int .i64 0, .int .i64 0, .int .i64 0, .int .i64 0, .int .i64 0, .float .f64 0, .string ByteArray.empty, .slice none 0 0, .slice none 0 0, .slice none 0 0], .bool false]) w := by kernel_rfl
theorem as_pair_yes (v : Value) (w : World) : Sem.run Try.prog (Instr.typeAssert (.iface 120 v) 56 120 true) w = .ok (.tuple #[v, .bool true]) w := by kernel_rfl
theorem as_pair_no {t : TypeId} (h : t ≠ 120) (v : Value) (w : World) : Sem.run Try.prog (Instr.typeAssert (.iface t v) 56 120 true) w = .ok (.tuple #[.agg #[.int .i64 0, .int .i64 0, .int .i64 0, .int .i64 0, .int .i64 0, .int .i64 0, .int .i64 0, .float .f64 0, .string ByteArray.empty, .slice none 0 0, .slice none 0 0, .slice none 0 0], .bool false]) w := by
  rw [as_pair_if, if_neg h]; exact as_pair_z w
theorem as_named_if (t : TypeId) (v : Value) (w : World) : Sem.run Try.prog (Instr.typeAssert (.iface t v) 56 121 true) w = Sem.run Try.prog (if t = 121 then pure (.tuple #[v, .bool true]) else (do let z ← zeroValue 121; pure (.tuple #[z, .bool false]))) w := by kernel_rfl
theorem as_named_z (w : World) : Sem.run Try.prog (do let z ← zeroValue 121; pure (Value.tuple #[z, .bool false])) w = .ok (Value.tuple #[.agg #[.int .i64 0, .int .i64 0, .int .i64 0, .int .i64 0, .int .i64 0, .int .i64 0, .int .i64 0, .float .f64 0, .string ByteArray.empty, .slice none 0 0, .slice none 0 0, .slice none 0 0], .bool false]) w := by kernel_rfl
theorem as_named_yes (v : Value) (w : World) : Sem.run Try.prog (Instr.typeAssert (.iface 121 v) 56 121 true) w = .ok (.tuple #[v, .bool true]) w := by kernel_rfl
theorem as_named_no {t : TypeId} (h : t ≠ 121) (v : Value) (w : World) : Sem.run Try.prog (Instr.typeAssert (.iface t v) 56 121 true) w = .ok (.tuple #[.agg #[.int .i64 0, .int .i64 0, .int .i64 0, .int .i64 0, .int .i64 0, .int .i64 0, .int .i64 0, .float .f64 0, .string ByteArray.empty, .slice none 0 0, .slice none 0 0, .slice none 0 0], .bool false]) w := by
  rw [as_named_if, if_neg h]; exact as_named_z w
def famK (k : Int) : FuncId :=
  if k = 1 then 80 else
  if k = 2 then 80 else
  if k = 3 then 80 else
  if k = 4 then 80 else
  if k = 5 then 80 else
  if k = 6 then 80 else
  if k = 16 then 80 else
  if k = 7 then 80 else
  if k = 8 then 80 else
  if k = 9 then 80 else
  if k = 10 then 80 else
  if k = 11 then 80 else
  if k = 12 then 80 else
  if k = 13 then 80 else
  if k = 14 then 80 else
  if k = 15 then 80 else
  if k = 20 then 82 else
  if k = 21 then 82 else
  if k = 22 then 82 else
  if k = 23 then 82 else
  if k = 24 then 82 else
  if k = 25 then 82 else
  if k = 26 then 82 else
  if k = 27 then 82 else
  if k = 28 then 82 else
  if k = 29 then 82 else
  if k = 30 then 82 else
  if k = 31 then 82 else
  if k = 32 then 82 else
  if k = 33 then 82 else
  if k = 34 then 82 else
  if k = 35 then 82 else
  if k = 36 then 82 else
  if k = 37 then 82 else
  if k = 40 then 83 else
  if k = 41 then 83 else
  if k = 42 then 83 else
  77
def famFn (d : PD) : FuncId := if slimP d then famK d.kind else 77
def leastK (k : Int) : FuncId :=
  if k = 1 then 81 else
  if k = 2 then 81 else
  if k = 3 then 81 else
  if k = 4 then 81 else
  if k = 5 then 81 else
  if k = 6 then 81 else
  if k = 16 then 81 else
  if k = 7 then 81 else
  if k = 8 then 81 else
  if k = 9 then 81 else
  if k = 10 then 81 else
  if k = 11 then 81 else
  if k = 12 then 81 else
  if k = 13 then 81 else
  if k = 14 then 81 else
  if k = 15 then 81 else
  if k = 20 then 78 else
  if k = 21 then 78 else
  if k = 22 then 78 else
  if k = 23 then 78 else
  if k = 24 then 78 else
  if k = 25 then 78 else
  if k = 26 then 78 else
  if k = 27 then 78 else
  if k = 28 then 78 else
  if k = 29 then 78 else
  if k = 30 then 78 else
  if k = 31 then 78 else
  if k = 32 then 78 else
  if k = 33 then 78 else
  if k = 34 then 78 else
  if k = 35 then 78 else
  if k = 36 then 78 else
  if k = 37 then 78 else
  if k = 40 then 78 else
  if k = 41 then 78 else
  if k = 42 then 78 else
  78
def leastFn (d : PD) : FuncId := if slimP d then leastK d.kind else 78
theorem strange_fns {k : Int} (h : k ≠ 1 ∧ k ≠ 2 ∧ k ≠ 3 ∧ k ≠ 4 ∧ k ≠ 5 ∧ k ≠ 6 ∧ k ≠ 16 ∧ k ≠ 7 ∧ k ≠ 8 ∧ k ≠ 9 ∧ k ≠ 10 ∧ k ≠ 11 ∧ k ≠ 12 ∧ k ≠ 13 ∧ k ≠ 14 ∧ k ≠ 15 ∧ k ≠ 20 ∧ k ≠ 21 ∧ k ≠ 22 ∧ k ≠ 23 ∧ k ≠ 24 ∧ k ≠ 25 ∧ k ≠ 26 ∧ k ≠ 27 ∧ k ≠ 28 ∧ k ≠ 29 ∧ k ≠ 30 ∧ k ≠ 31 ∧ k ≠ 32 ∧ k ≠ 33 ∧ k ≠ 34 ∧ k ≠ 35 ∧ k ≠ 36 ∧ k ≠ 37 ∧ k ≠ 40 ∧ k ≠ 41 ∧ k ≠ 42) : famK k = 77 ∧ leastK k = 78 := by
  obtain ⟨e1, e2, e3, e4, e5, e6, e16, e7, e8, e9, e10, e11, e12, e13, e14, e15, e20, e21, e22, e23, e24, e25, e26, e27, e28, e29, e30, e31, e32, e33, e34, e35, e36, e37, e40, e41, e42⟩ := h
  constructor
  · unfold famK; rw [if_neg e1, if_neg e2, if_neg e3, if_neg e4, if_neg e5, if_neg e6, if_neg e16, if_neg e7, if_neg e8, if_neg e9, if_neg e10, if_neg e11, if_neg e12, if_neg e13, if_neg e14, if_neg e15, if_neg e20, if_neg e21, if_neg e22, if_neg e23, if_neg e24, if_neg e25, if_neg e26, if_neg e27, if_neg e28, if_neg e29, if_neg e30, if_neg e31, if_neg e32, if_neg e33, if_neg e34, if_neg e35, if_neg e36, if_neg e37, if_neg e40, if_neg e41, if_neg e42]
  · unfold leastK; rw [if_neg e1, if_neg e2, if_neg e3, if_neg e4, if_neg e5, if_neg e6, if_neg e16, if_neg e7, if_neg e8, if_neg e9, if_neg e10, if_neg e11, if_neg e12, if_neg e13, if_neg e14, if_neg e15, if_neg e20, if_neg e21, if_neg e22, if_neg e23, if_neg e24, if_neg e25, if_neg e26, if_neg e27, if_neg e28, if_neg e29, if_neg e30, if_neg e31, if_neg e32, if_neg e33, if_neg e34, if_neg e35, if_neg e36, if_neg e37, if_neg e40, if_neg e41, if_neg e42]
theorem meth_top (d : PD) (v0 v1 v2 v3 v4 v5 v6 v7 v8 v9 v10 v11 : Value) (w : World) : Sem.run Try.prog (method 247 (ptT d) (.agg #[v0, v1, v2, v3, v4, v5, v6, v7, v8, v9, v10, v11]) "loop.example/reed/impl.top") w = .ok (79, .agg #[v0, v1, v2, v3, v4, v5, v6, v7, v8, v9, v10, v11]) w := by
  unfold ptT
  by_cases h : slimP d
  · rw [if_pos h]
    rcases kinds_all d.kind with h | h | h | h | h | h | h | h | h | h | h | h | h | h | h | h | h | h | h | h | h | h | h | h | h | h | h | h | h | h | h | h | h | h | h | h | h | ⟨h, _, h2⟩
    · rw [h]; exact meth_top_block v0 v1 v2 v3 v4 v5 v6 v7 v8 v9 v10 v11 w
    · rw [h]; exact meth_top_let v0 v1 v2 v3 v4 v5 v6 v7 v8 v9 v10 v11 w
    · rw [h]; exact meth_top_const v0 v1 v2 v3 v4 v5 v6 v7 v8 v9 v10 v11 w
    · rw [h]; exact meth_top_ownFn v0 v1 v2 v3 v4 v5 v6 v7 v8 v9 v10 v11 w
    · rw [h]; exact meth_top_set v0 v1 v2 v3 v4 v5 v6 v7 v8 v9 v10 v11 w
    · rw [h]; exact meth_top_do v0 v1 v2 v3 v4 v5 v6 v7 v8 v9 v10 v11 w
    · rw [h]; exact meth_top_do v0 v1 v2 v3 v4 v5 v6 v7 v8 v9 v10 v11 w
    · rw [h]; exact meth_top_if v0 v1 v2 v3 v4 v5 v6 v7 v8 v9 v10 v11 w
    · rw [h]; exact meth_top_while v0 v1 v2 v3 v4 v5 v6 v7 v8 v9 v10 v11 w
    · rw [h]; exact meth_top_for v0 v1 v2 v3 v4 v5 v6 v7 v8 v9 v10 v11 w
    · rw [h]; exact meth_top_each v0 v1 v2 v3 v4 v5 v6 v7 v8 v9 v10 v11 w
    · rw [h]; exact meth_top_jump v0 v1 v2 v3 v4 v5 v6 v7 v8 v9 v10 v11 w
    · rw [h]; exact meth_top_jump v0 v1 v2 v3 v4 v5 v6 v7 v8 v9 v10 v11 w
    · rw [h]; exact meth_top_return v0 v1 v2 v3 v4 v5 v6 v7 v8 v9 v10 v11 w
    · rw [h]; exact meth_top_try v0 v1 v2 v3 v4 v5 v6 v7 v8 v9 v10 v11 w
    · rw [h]; exact meth_top_throw v0 v1 v2 v3 v4 v5 v6 v7 v8 v9 v10 v11 w
    · rw [h]; exact meth_top_bare v0 v1 v2 v3 v4 v5 v6 v7 v8 v9 v10 v11 w
    · rw [h]; exact meth_top_bare v0 v1 v2 v3 v4 v5 v6 v7 v8 v9 v10 v11 w
    · rw [h]; exact meth_top_bare v0 v1 v2 v3 v4 v5 v6 v7 v8 v9 v10 v11 w
    · rw [h]; exact meth_top_int v0 v1 v2 v3 v4 v5 v6 v7 v8 v9 v10 v11 w
    · rw [h]; exact meth_top_flt v0 v1 v2 v3 v4 v5 v6 v7 v8 v9 v10 v11 w
    · rw [h]; exact meth_top_str v0 v1 v2 v3 v4 v5 v6 v7 v8 v9 v10 v11 w
    · rw [h]; exact meth_top_name v0 v1 v2 v3 v4 v5 v6 v7 v8 v9 v10 v11 w
    · rw [h]; exact meth_top_rest v0 v1 v2 v3 v4 v5 v6 v7 v8 v9 v10 v11 w
    · rw [h]; exact meth_top_either v0 v1 v2 v3 v4 v5 v6 v7 v8 v9 v10 v11 w
    · rw [h]; exact meth_top_either v0 v1 v2 v3 v4 v5 v6 v7 v8 v9 v10 v11 w
    · rw [h]; exact meth_top_unary v0 v1 v2 v3 v4 v5 v6 v7 v8 v9 v10 v11 w
    · rw [h]; exact meth_top_binary v0 v1 v2 v3 v4 v5 v6 v7 v8 v9 v10 v11 w
    · rw [h]; exact meth_top_index v0 v1 v2 v3 v4 v5 v6 v7 v8 v9 v10 v11 w
    · rw [h]; exact meth_top_field v0 v1 v2 v3 v4 v5 v6 v7 v8 v9 v10 v11 w
    · rw [h]; exact meth_top_call v0 v1 v2 v3 v4 v5 v6 v7 v8 v9 v10 v11 w
    · rw [h]; exact meth_top_table v0 v1 v2 v3 v4 v5 v6 v7 v8 v9 v10 v11 w
    · rw [h]; exact meth_top_fn v0 v1 v2 v3 v4 v5 v6 v7 v8 v9 v10 v11 w
    · rw [h]; exact meth_top_one v0 v1 v2 v3 v4 v5 v6 v7 v8 v9 v10 v11 w
    · rw [h]; exact meth_top_item v0 v1 v2 v3 v4 v5 v6 v7 v8 v9 v10 v11 w
    · rw [h]; exact meth_top_pair v0 v1 v2 v3 v4 v5 v6 v7 v8 v9 v10 v11 w
    · rw [h]; exact meth_top_named v0 v1 v2 v3 v4 v5 v6 v7 v8 v9 v10 v11 w
    · rw [h]; exact meth_top_strange v0 v1 v2 v3 v4 v5 v6 v7 v8 v9 v10 v11 w
  · rw [if_neg h]; exact meth_top_strange v0 v1 v2 v3 v4 v5 v6 v7 v8 v9 v10 v11 w
theorem meth_family (d : PD) (v0 v1 v2 v3 v4 v5 v6 v7 v8 v9 v10 v11 : Value) (w : World) : Sem.run Try.prog (method 247 (ptT d) (.agg #[v0, v1, v2, v3, v4, v5, v6, v7, v8, v9, v10, v11]) "loop.example/reed/impl.family") w = .ok (famFn d, .agg #[v0, v1, v2, v3, v4, v5, v6, v7, v8, v9, v10, v11]) w := by
  unfold ptT famFn
  by_cases h : slimP d
  · rw [if_pos h, if_pos h]
    rcases kinds_all d.kind with h | h | h | h | h | h | h | h | h | h | h | h | h | h | h | h | h | h | h | h | h | h | h | h | h | h | h | h | h | h | h | h | h | h | h | h | h | ⟨h, _, h2⟩
    · rw [h]; exact meth_family_block v0 v1 v2 v3 v4 v5 v6 v7 v8 v9 v10 v11 w
    · rw [h]; exact meth_family_let v0 v1 v2 v3 v4 v5 v6 v7 v8 v9 v10 v11 w
    · rw [h]; exact meth_family_const v0 v1 v2 v3 v4 v5 v6 v7 v8 v9 v10 v11 w
    · rw [h]; exact meth_family_ownFn v0 v1 v2 v3 v4 v5 v6 v7 v8 v9 v10 v11 w
    · rw [h]; exact meth_family_set v0 v1 v2 v3 v4 v5 v6 v7 v8 v9 v10 v11 w
    · rw [h]; exact meth_family_do v0 v1 v2 v3 v4 v5 v6 v7 v8 v9 v10 v11 w
    · rw [h]; exact meth_family_do v0 v1 v2 v3 v4 v5 v6 v7 v8 v9 v10 v11 w
    · rw [h]; exact meth_family_if v0 v1 v2 v3 v4 v5 v6 v7 v8 v9 v10 v11 w
    · rw [h]; exact meth_family_while v0 v1 v2 v3 v4 v5 v6 v7 v8 v9 v10 v11 w
    · rw [h]; exact meth_family_for v0 v1 v2 v3 v4 v5 v6 v7 v8 v9 v10 v11 w
    · rw [h]; exact meth_family_each v0 v1 v2 v3 v4 v5 v6 v7 v8 v9 v10 v11 w
    · rw [h]; exact meth_family_jump v0 v1 v2 v3 v4 v5 v6 v7 v8 v9 v10 v11 w
    · rw [h]; exact meth_family_jump v0 v1 v2 v3 v4 v5 v6 v7 v8 v9 v10 v11 w
    · rw [h]; exact meth_family_return v0 v1 v2 v3 v4 v5 v6 v7 v8 v9 v10 v11 w
    · rw [h]; exact meth_family_try v0 v1 v2 v3 v4 v5 v6 v7 v8 v9 v10 v11 w
    · rw [h]; exact meth_family_throw v0 v1 v2 v3 v4 v5 v6 v7 v8 v9 v10 v11 w
    · rw [h]; exact meth_family_bare v0 v1 v2 v3 v4 v5 v6 v7 v8 v9 v10 v11 w
    · rw [h]; exact meth_family_bare v0 v1 v2 v3 v4 v5 v6 v7 v8 v9 v10 v11 w
    · rw [h]; exact meth_family_bare v0 v1 v2 v3 v4 v5 v6 v7 v8 v9 v10 v11 w
    · rw [h]; exact meth_family_int v0 v1 v2 v3 v4 v5 v6 v7 v8 v9 v10 v11 w
    · rw [h]; exact meth_family_flt v0 v1 v2 v3 v4 v5 v6 v7 v8 v9 v10 v11 w
    · rw [h]; exact meth_family_str v0 v1 v2 v3 v4 v5 v6 v7 v8 v9 v10 v11 w
    · rw [h]; exact meth_family_name v0 v1 v2 v3 v4 v5 v6 v7 v8 v9 v10 v11 w
    · rw [h]; exact meth_family_rest v0 v1 v2 v3 v4 v5 v6 v7 v8 v9 v10 v11 w
    · rw [h]; exact meth_family_either v0 v1 v2 v3 v4 v5 v6 v7 v8 v9 v10 v11 w
    · rw [h]; exact meth_family_either v0 v1 v2 v3 v4 v5 v6 v7 v8 v9 v10 v11 w
    · rw [h]; exact meth_family_unary v0 v1 v2 v3 v4 v5 v6 v7 v8 v9 v10 v11 w
    · rw [h]; exact meth_family_binary v0 v1 v2 v3 v4 v5 v6 v7 v8 v9 v10 v11 w
    · rw [h]; exact meth_family_index v0 v1 v2 v3 v4 v5 v6 v7 v8 v9 v10 v11 w
    · rw [h]; exact meth_family_field v0 v1 v2 v3 v4 v5 v6 v7 v8 v9 v10 v11 w
    · rw [h]; exact meth_family_call v0 v1 v2 v3 v4 v5 v6 v7 v8 v9 v10 v11 w
    · rw [h]; exact meth_family_table v0 v1 v2 v3 v4 v5 v6 v7 v8 v9 v10 v11 w
    · rw [h]; exact meth_family_fn v0 v1 v2 v3 v4 v5 v6 v7 v8 v9 v10 v11 w
    · rw [h]; exact meth_family_one v0 v1 v2 v3 v4 v5 v6 v7 v8 v9 v10 v11 w
    · rw [h]; exact meth_family_item v0 v1 v2 v3 v4 v5 v6 v7 v8 v9 v10 v11 w
    · rw [h]; exact meth_family_pair v0 v1 v2 v3 v4 v5 v6 v7 v8 v9 v10 v11 w
    · rw [h]; exact meth_family_named v0 v1 v2 v3 v4 v5 v6 v7 v8 v9 v10 v11 w
    · rw [h, (strange_fns h2).1]; exact meth_family_strange v0 v1 v2 v3 v4 v5 v6 v7 v8 v9 v10 v11 w
  · rw [if_neg h, if_neg h]; exact meth_family_strange v0 v1 v2 v3 v4 v5 v6 v7 v8 v9 v10 v11 w
theorem meth_leastLine (d : PD) (v0 v1 v2 v3 v4 v5 v6 v7 v8 v9 v10 v11 : Value) (w : World) : Sem.run Try.prog (method 247 (ptT d) (.agg #[v0, v1, v2, v3, v4, v5, v6, v7, v8, v9, v10, v11]) "loop.example/reed/impl.leastLine") w = .ok (leastFn d, .agg #[v0, v1, v2, v3, v4, v5, v6, v7, v8, v9, v10, v11]) w := by
  unfold ptT leastFn
  by_cases h : slimP d
  · rw [if_pos h, if_pos h]
    rcases kinds_all d.kind with h | h | h | h | h | h | h | h | h | h | h | h | h | h | h | h | h | h | h | h | h | h | h | h | h | h | h | h | h | h | h | h | h | h | h | h | h | ⟨h, _, h2⟩
    · rw [h]; exact meth_leastLine_block v0 v1 v2 v3 v4 v5 v6 v7 v8 v9 v10 v11 w
    · rw [h]; exact meth_leastLine_let v0 v1 v2 v3 v4 v5 v6 v7 v8 v9 v10 v11 w
    · rw [h]; exact meth_leastLine_const v0 v1 v2 v3 v4 v5 v6 v7 v8 v9 v10 v11 w
    · rw [h]; exact meth_leastLine_ownFn v0 v1 v2 v3 v4 v5 v6 v7 v8 v9 v10 v11 w
    · rw [h]; exact meth_leastLine_set v0 v1 v2 v3 v4 v5 v6 v7 v8 v9 v10 v11 w
    · rw [h]; exact meth_leastLine_do v0 v1 v2 v3 v4 v5 v6 v7 v8 v9 v10 v11 w
    · rw [h]; exact meth_leastLine_do v0 v1 v2 v3 v4 v5 v6 v7 v8 v9 v10 v11 w
    · rw [h]; exact meth_leastLine_if v0 v1 v2 v3 v4 v5 v6 v7 v8 v9 v10 v11 w
    · rw [h]; exact meth_leastLine_while v0 v1 v2 v3 v4 v5 v6 v7 v8 v9 v10 v11 w
    · rw [h]; exact meth_leastLine_for v0 v1 v2 v3 v4 v5 v6 v7 v8 v9 v10 v11 w
    · rw [h]; exact meth_leastLine_each v0 v1 v2 v3 v4 v5 v6 v7 v8 v9 v10 v11 w
    · rw [h]; exact meth_leastLine_jump v0 v1 v2 v3 v4 v5 v6 v7 v8 v9 v10 v11 w
    · rw [h]; exact meth_leastLine_jump v0 v1 v2 v3 v4 v5 v6 v7 v8 v9 v10 v11 w
    · rw [h]; exact meth_leastLine_return v0 v1 v2 v3 v4 v5 v6 v7 v8 v9 v10 v11 w
    · rw [h]; exact meth_leastLine_try v0 v1 v2 v3 v4 v5 v6 v7 v8 v9 v10 v11 w
    · rw [h]; exact meth_leastLine_throw v0 v1 v2 v3 v4 v5 v6 v7 v8 v9 v10 v11 w
    · rw [h]; exact meth_leastLine_bare v0 v1 v2 v3 v4 v5 v6 v7 v8 v9 v10 v11 w
    · rw [h]; exact meth_leastLine_bare v0 v1 v2 v3 v4 v5 v6 v7 v8 v9 v10 v11 w
    · rw [h]; exact meth_leastLine_bare v0 v1 v2 v3 v4 v5 v6 v7 v8 v9 v10 v11 w
    · rw [h]; exact meth_leastLine_int v0 v1 v2 v3 v4 v5 v6 v7 v8 v9 v10 v11 w
    · rw [h]; exact meth_leastLine_flt v0 v1 v2 v3 v4 v5 v6 v7 v8 v9 v10 v11 w
    · rw [h]; exact meth_leastLine_str v0 v1 v2 v3 v4 v5 v6 v7 v8 v9 v10 v11 w
    · rw [h]; exact meth_leastLine_name v0 v1 v2 v3 v4 v5 v6 v7 v8 v9 v10 v11 w
    · rw [h]; exact meth_leastLine_rest v0 v1 v2 v3 v4 v5 v6 v7 v8 v9 v10 v11 w
    · rw [h]; exact meth_leastLine_either v0 v1 v2 v3 v4 v5 v6 v7 v8 v9 v10 v11 w
    · rw [h]; exact meth_leastLine_either v0 v1 v2 v3 v4 v5 v6 v7 v8 v9 v10 v11 w
    · rw [h]; exact meth_leastLine_unary v0 v1 v2 v3 v4 v5 v6 v7 v8 v9 v10 v11 w
    · rw [h]; exact meth_leastLine_binary v0 v1 v2 v3 v4 v5 v6 v7 v8 v9 v10 v11 w
    · rw [h]; exact meth_leastLine_index v0 v1 v2 v3 v4 v5 v6 v7 v8 v9 v10 v11 w
    · rw [h]; exact meth_leastLine_field v0 v1 v2 v3 v4 v5 v6 v7 v8 v9 v10 v11 w
    · rw [h]; exact meth_leastLine_call v0 v1 v2 v3 v4 v5 v6 v7 v8 v9 v10 v11 w
    · rw [h]; exact meth_leastLine_table v0 v1 v2 v3 v4 v5 v6 v7 v8 v9 v10 v11 w
    · rw [h]; exact meth_leastLine_fn v0 v1 v2 v3 v4 v5 v6 v7 v8 v9 v10 v11 w
    · rw [h]; exact meth_leastLine_one v0 v1 v2 v3 v4 v5 v6 v7 v8 v9 v10 v11 w
    · rw [h]; exact meth_leastLine_item v0 v1 v2 v3 v4 v5 v6 v7 v8 v9 v10 v11 w
    · rw [h]; exact meth_leastLine_pair v0 v1 v2 v3 v4 v5 v6 v7 v8 v9 v10 v11 w
    · rw [h]; exact meth_leastLine_named v0 v1 v2 v3 v4 v5 v6 v7 v8 v9 v10 v11 w
    · rw [h, (strange_fns h2).2]; exact meth_leastLine_strange v0 v1 v2 v3 v4 v5 v6 v7 v8 v9 v10 v11 w
  · rw [if_neg h, if_neg h]; exact meth_leastLine_strange v0 v1 v2 v3 v4 v5 v6 v7 v8 v9 v10 v11 w
end Go.Proofs.Ytnokgdgikdgaeaa
