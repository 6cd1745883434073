import Derived.Test.YtnokgdgikdgaeaaGreatP05
namespace Go.Proofs.YtnokgdgikdgaeaaGreat
open Go.RowKit

theorem meth_head_bare (v0 v1 v2 v3 v4 v5 v6 v7 v8 v9 : Value) (w : World) : Sem.run Tryz.prog (method 287 149 (.agg #[v0, v1, v2, v3, v4, v5, v6, v7, v8, v9]) "loop.example/reed/impl.head") w = .ok (102, .agg #[v0, v1, v2, v3, v4, v5, v6, v7, v8, v9]) w := by kernel_rfl
theorem meth_fits_bare (v0 v1 v2 v3 v4 v5 v6 v7 v8 v9 : Value) (w : World) : Sem.run Tryz.prog (method 287 149 (.agg #[v0, v1, v2, v3, v4, v5, v6, v7, v8, v9]) "loop.example/reed/impl.fits") w = .ok (124, .agg #[v0, v1, v2, v3, v4, v5, v6, v7, v8, v9]) w := by kernel_rfl
theorem meth_head_binary (v0 v1 v2 v3 v4 v5 v6 v7 v8 v9 : Value) (w : World) : Sem.run Tryz.prog (method 287 156 (.agg #[v0, v1, v2, v3, v4, v5, v6, v7, v8, v9]) "loop.example/reed/impl.head") w = .ok (102, .agg #[v0, v1, v2, v3, v4, v5, v6, v7, v8, v9]) w := by kernel_rfl
theorem meth_fits_binary (v0 v1 v2 v3 v4 v5 v6 v7 v8 v9 : Value) (w : World) : Sem.run Tryz.prog (method 287 156 (.agg #[v0, v1, v2, v3, v4, v5, v6, v7, v8, v9]) "loop.example/reed/impl.fits") w = .ok (132, .agg #[v0, v1, v2, v3, v4, v5, v6, v7, v8, v9]) w := by kernel_rfl
theorem meth_head_block (v0 v1 v2 v3 v4 v5 v6 v7 v8 v9 : Value) (w : World) : Sem.run Tryz.prog (method 287 125 (.agg #[v0, v1, v2, v3, v4, v5, v6, v7, v8, v9]) "loop.example/reed/impl.head") w = .ok (102, .agg #[v0, v1, v2, v3, v4, v5, v6, v7, v8, v9]) w := by kernel_rfl
theorem meth_fits_block (v0 v1 v2 v3 v4 v5 v6 v7 v8 v9 : Value) (w : World) : Sem.run Tryz.prog (method 287 125 (.agg #[v0, v1, v2, v3, v4, v5, v6, v7, v8, v9]) "loop.example/reed/impl.fits") w = .ok (117, .agg #[v0, v1, v2, v3, v4, v5, v6, v7, v8, v9]) w := by kernel_rfl
theorem meth_head_builtin (v0 v1 v2 v3 v4 v5 v6 v7 v8 v9 : Value) (w : World) : Sem.run Tryz.prog (method 287 153 (.agg #[v0, v1, v2, v3, v4, v5, v6, v7, v8, v9]) "loop.example/reed/impl.head") w = .ok (102, .agg #[v0, v1, v2, v3, v4, v5, v6, v7, v8, v9]) w := by kernel_rfl
theorem meth_fits_builtin (v0 v1 v2 v3 v4 v5 v6 v7 v8 v9 : Value) (w : World) : Sem.run Tryz.prog (method 287 153 (.agg #[v0, v1, v2, v3, v4, v5, v6, v7, v8, v9]) "loop.example/reed/impl.fits") w = .ok (129, .agg #[v0, v1, v2, v3, v4, v5, v6, v7, v8, v9]) w := by kernel_rfl
theorem meth_head_call (v0 v1 v2 v3 v4 v5 v6 v7 v8 v9 : Value) (w : World) : Sem.run Tryz.prog (method 287 157 (.agg #[v0, v1, v2, v3, v4, v5, v6, v7, v8, v9]) "loop.example/reed/impl.head") w = .ok (102, .agg #[v0, v1, v2, v3, v4, v5, v6, v7, v8, v9]) w := by kernel_rfl
theorem meth_fits_call (v0 v1 v2 v3 v4 v5 v6 v7 v8 v9 : Value) (w : World) : Sem.run Tryz.prog (method 287 157 (.agg #[v0, v1, v2, v3, v4, v5, v6, v7, v8, v9]) "loop.example/reed/impl.fits") w = .ok (133, .agg #[v0, v1, v2, v3, v4, v5, v6, v7, v8, v9]) w := by kernel_rfl
theorem meth_head_do (v0 v1 v2 v3 v4 v5 v6 v7 v8 v9 : Value) (w : World) : Sem.run Tryz.prog (method 287 145 (.agg #[v0, v1, v2, v3, v4, v5, v6, v7, v8, v9]) "loop.example/reed/impl.head") w = .ok (102, .agg #[v0, v1, v2, v3, v4, v5, v6, v7, v8, v9]) w := by kernel_rfl
theorem meth_fits_do (v0 v1 v2 v3 v4 v5 v6 v7 v8 v9 : Value) (w : World) : Sem.run Tryz.prog (method 287 145 (.agg #[v0, v1, v2, v3, v4, v5, v6, v7, v8, v9]) "loop.example/reed/impl.fits") w = .ok (120, .agg #[v0, v1, v2, v3, v4, v5, v6, v7, v8, v9]) w := by kernel_rfl
theorem meth_head_each (v0 v1 v2 v3 v4 v5 v6 v7 v8 v9 : Value) (w : World) : Sem.run Tryz.prog (method 287 99 (.agg #[v0, v1, v2, v3, v4, v5, v6, v7, v8, v9]) "loop.example/reed/impl.head") w = .ok (102, .agg #[v0, v1, v2, v3, v4, v5, v6, v7, v8, v9]) w := by kernel_rfl
theorem meth_fits_each (v0 v1 v2 v3 v4 v5 v6 v7 v8 v9 : Value) (w : World) : Sem.run Tryz.prog (method 287 99 (.agg #[v0, v1, v2, v3, v4, v5, v6, v7, v8, v9]) "loop.example/reed/impl.fits") w = .ok (110, .agg #[v0, v1, v2, v3, v4, v5, v6, v7, v8, v9]) w := by kernel_rfl
theorem meth_head_flt (v0 v1 v2 v3 v4 v5 v6 v7 v8 v9 : Value) (w : World) : Sem.run Tryz.prog (method 287 151 (.agg #[v0, v1, v2, v3, v4, v5, v6, v7, v8, v9]) "loop.example/reed/impl.head") w = .ok (102, .agg #[v0, v1, v2, v3, v4, v5, v6, v7, v8, v9]) w := by kernel_rfl
theorem meth_fits_flt (v0 v1 v2 v3 v4 v5 v6 v7 v8 v9 : Value) (w : World) : Sem.run Tryz.prog (method 287 151 (.agg #[v0, v1, v2, v3, v4, v5, v6, v7, v8, v9]) "loop.example/reed/impl.fits") w = .ok (126, .agg #[v0, v1, v2, v3, v4, v5, v6, v7, v8, v9]) w := by kernel_rfl
theorem meth_head_fn (v0 v1 v2 v3 v4 v5 v6 v7 v8 v9 : Value) (w : World) : Sem.run Tryz.prog (method 287 92 (.agg #[v0, v1, v2, v3, v4, v5, v6, v7, v8, v9]) "loop.example/reed/impl.head") w = .ok (102, .agg #[v0, v1, v2, v3, v4, v5, v6, v7, v8, v9]) w := by kernel_rfl
theorem meth_fits_fn (v0 v1 v2 v3 v4 v5 v6 v7 v8 v9 : Value) (w : World) : Sem.run Tryz.prog (method 287 92 (.agg #[v0, v1, v2, v3, v4, v5, v6, v7, v8, v9]) "loop.example/reed/impl.fits") w = .ok (103, .agg #[v0, v1, v2, v3, v4, v5, v6, v7, v8, v9]) w := by kernel_rfl
theorem meth_head_for (v0 v1 v2 v3 v4 v5 v6 v7 v8 v9 : Value) (w : World) : Sem.run Tryz.prog (method 287 98 (.agg #[v0, v1, v2, v3, v4, v5, v6, v7, v8, v9]) "loop.example/reed/impl.head") w = .ok (102, .agg #[v0, v1, v2, v3, v4, v5, v6, v7, v8, v9]) w := by kernel_rfl
theorem meth_fits_for (v0 v1 v2 v3 v4 v5 v6 v7 v8 v9 : Value) (w : World) : Sem.run Tryz.prog (method 287 98 (.agg #[v0, v1, v2, v3, v4, v5, v6, v7, v8, v9]) "loop.example/reed/impl.fits") w = .ok (108, .agg #[v0, v1, v2, v3, v4, v5, v6, v7, v8, v9]) w := by kernel_rfl
theorem meth_head_if (v0 v1 v2 v3 v4 v5 v6 v7 v8 v9 : Value) (w : World) : Sem.run Tryz.prog (method 287 146 (.agg #[v0, v1, v2, v3, v4, v5, v6, v7, v8, v9]) "loop.example/reed/impl.head") w = .ok (102, .agg #[v0, v1, v2, v3, v4, v5, v6, v7, v8, v9]) w := by kernel_rfl
theorem meth_fits_if (v0 v1 v2 v3 v4 v5 v6 v7 v8 v9 : Value) (w : World) : Sem.run Tryz.prog (method 287 146 (.agg #[v0, v1, v2, v3, v4, v5, v6, v7, v8, v9]) "loop.example/reed/impl.fits") w = .ok (121, .agg #[v0, v1, v2, v3, v4, v5, v6, v7, v8, v9]) w := by kernel_rfl
theorem meth_head_int (v0 v1 v2 v3 v4 v5 v6 v7 v8 v9 : Value) (w : World) : Sem.run Tryz.prog (method 287 150 (.agg #[v0, v1, v2, v3, v4, v5, v6, v7, v8, v9]) "loop.example/reed/impl.head") w = .ok (102, .agg #[v0, v1, v2, v3, v4, v5, v6, v7, v8, v9]) w := by kernel_rfl
theorem meth_fits_int (v0 v1 v2 v3 v4 v5 v6 v7 v8 v9 : Value) (w : World) : Sem.run Tryz.prog (method 287 150 (.agg #[v0, v1, v2, v3, v4, v5, v6, v7, v8, v9]) "loop.example/reed/impl.fits") w = .ok (125, .agg #[v0, v1, v2, v3, v4, v5, v6, v7, v8, v9]) w := by kernel_rfl
theorem meth_head_jump (v0 v1 v2 v3 v4 v5 v6 v7 v8 v9 : Value) (w : World) : Sem.run Tryz.prog (method 287 106 (.agg #[v0, v1, v2, v3, v4, v5, v6, v7, v8, v9]) "loop.example/reed/impl.head") w = .ok (102, .agg #[v0, v1, v2, v3, v4, v5, v6, v7, v8, v9]) w := by kernel_rfl
theorem meth_fits_jump (v0 v1 v2 v3 v4 v5 v6 v7 v8 v9 : Value) (w : World) : Sem.run Tryz.prog (method 287 106 (.agg #[v0, v1, v2, v3, v4, v5, v6, v7, v8, v9]) "loop.example/reed/impl.fits") w = .ok (114, .agg #[v0, v1, v2, v3, v4, v5, v6, v7, v8, v9]) w := by kernel_rfl
theorem meth_head_let (v0 v1 v2 v3 v4 v5 v6 v7 v8 v9 : Value) (w : World) : Sem.run Tryz.prog (method 287 97 (.agg #[v0, v1, v2, v3, v4, v5, v6, v7, v8, v9]) "loop.example/reed/impl.head") w = .ok (102, .agg #[v0, v1, v2, v3, v4, v5, v6, v7, v8, v9]) w := by kernel_rfl
theorem meth_fits_let (v0 v1 v2 v3 v4 v5 v6 v7 v8 v9 : Value) (w : World) : Sem.run Tryz.prog (method 287 97 (.agg #[v0, v1, v2, v3, v4, v5, v6, v7, v8, v9]) "loop.example/reed/impl.fits") w = .ok (105, .agg #[v0, v1, v2, v3, v4, v5, v6, v7, v8, v9]) w := by kernel_rfl
theorem meth_head_one (v0 v1 v2 v3 v4 v5 v6 v7 v8 v9 : Value) (w : World) : Sem.run Tryz.prog (method 287 159 (.agg #[v0, v1, v2, v3, v4, v5, v6, v7, v8, v9]) "loop.example/reed/impl.head") w = .ok (102, .agg #[v0, v1, v2, v3, v4, v5, v6, v7, v8, v9]) w := by kernel_rfl
theorem meth_fits_one (v0 v1 v2 v3 v4 v5 v6 v7 v8 v9 : Value) (w : World) : Sem.run Tryz.prog (method 287 159 (.agg #[v0, v1, v2, v3, v4, v5, v6, v7, v8, v9]) "loop.example/reed/impl.fits") w = .ok (135, .agg #[v0, v1, v2, v3, v4, v5, v6, v7, v8, v9]) w := by kernel_rfl
theorem meth_head_rest (v0 v1 v2 v3 v4 v5 v6 v7 v8 v9 : Value) (w : World) : Sem.run Tryz.prog (method 287 108 (.agg #[v0, v1, v2, v3, v4, v5, v6, v7, v8, v9]) "loop.example/reed/impl.head") w = .ok (102, .agg #[v0, v1, v2, v3, v4, v5, v6, v7, v8, v9]) w := by kernel_rfl
theorem meth_fits_rest (v0 v1 v2 v3 v4 v5 v6 v7 v8 v9 : Value) (w : World) : Sem.run Tryz.prog (method 287 108 (.agg #[v0, v1, v2, v3, v4, v5, v6, v7, v8, v9]) "loop.example/reed/impl.fits") w = .ok (115, .agg #[v0, v1, v2, v3, v4, v5, v6, v7, v8, v9]) w := by kernel_rfl
theorem meth_head_return (v0 v1 v2 v3 v4 v5 v6 v7 v8 v9 : Value) (w : World) : Sem.run Tryz.prog (method 287 147 (.agg #[v0, v1, v2, v3, v4, v5, v6, v7, v8, v9]) "loop.example/reed/impl.head") w = .ok (102, .agg #[v0, v1, v2, v3, v4, v5, v6, v7, v8, v9]) w := by kernel_rfl
theorem meth_fits_return (v0 v1 v2 v3 v4 v5 v6 v7 v8 v9 : Value) (w : World) : Sem.run Tryz.prog (method 287 147 (.agg #[v0, v1, v2, v3, v4, v5, v6, v7, v8, v9]) "loop.example/reed/impl.fits") w = .ok (122, .agg #[v0, v1, v2, v3, v4, v5, v6, v7, v8, v9]) w := by kernel_rfl
theorem meth_head_set (v0 v1 v2 v3 v4 v5 v6 v7 v8 v9 : Value) (w : World) : Sem.run Tryz.prog (method 287 144 (.agg #[v0, v1, v2, v3, v4, v5, v6, v7, v8, v9]) "loop.example/reed/impl.head") w = .ok (102, .agg #[v0, v1, v2, v3, v4, v5, v6, v7, v8, v9]) w := by kernel_rfl
theorem meth_fits_set (v0 v1 v2 v3 v4 v5 v6 v7 v8 v9 : Value) (w : World) : Sem.run Tryz.prog (method 287 144 (.agg #[v0, v1, v2, v3, v4, v5, v6, v7, v8, v9]) "loop.example/reed/impl.fits") w = .ok (119, .agg #[v0, v1, v2, v3, v4, v5, v6, v7, v8, v9]) w := by kernel_rfl
theorem meth_head_str (v0 v1 v2 v3 v4 v5 v6 v7 v8 v9 : Value) (w : World) : Sem.run Tryz.prog (method 287 152 (.agg #[v0, v1, v2, v3, v4, v5, v6, v7, v8, v9]) "loop.example/reed/impl.head") w = .ok (102, .agg #[v0, v1, v2, v3, v4, v5, v6, v7, v8, v9]) w := by kernel_rfl
theorem meth_fits_str (v0 v1 v2 v3 v4 v5 v6 v7 v8 v9 : Value) (w : World) : Sem.run Tryz.prog (method 287 152 (.agg #[v0, v1, v2, v3, v4, v5, v6, v7, v8, v9]) "loop.example/reed/impl.fits") w = .ok (128, .agg #[v0, v1, v2, v3, v4, v5, v6, v7, v8, v9]) w := by kernel_rfl
theorem meth_head_table (v0 v1 v2 v3 v4 v5 v6 v7 v8 v9 : Value) (w : World) : Sem.run Tryz.prog (method 287 158 (.agg #[v0, v1, v2, v3, v4, v5, v6, v7, v8, v9]) "loop.example/reed/impl.head") w = .ok (102, .agg #[v0, v1, v2, v3, v4, v5, v6, v7, v8, v9]) w := by kernel_rfl
theorem meth_fits_table (v0 v1 v2 v3 v4 v5 v6 v7 v8 v9 : Value) (w : World) : Sem.run Tryz.prog (method 287 158 (.agg #[v0, v1, v2, v3, v4, v5, v6, v7, v8, v9]) "loop.example/reed/impl.fits") w = .ok (134, .agg #[v0, v1, v2, v3, v4, v5, v6, v7, v8, v9]) w := by kernel_rfl
theorem meth_head_throw (v0 v1 v2 v3 v4 v5 v6 v7 v8 v9 : Value) (w : World) : Sem.run Tryz.prog (method 287 148 (.agg #[v0, v1, v2, v3, v4, v5, v6, v7, v8, v9]) "loop.example/reed/impl.head") w = .ok (102, .agg #[v0, v1, v2, v3, v4, v5, v6, v7, v8, v9]) w := by kernel_rfl
theorem meth_fits_throw (v0 v1 v2 v3 v4 v5 v6 v7 v8 v9 : Value) (w : World) : Sem.run Tryz.prog (method 287 148 (.agg #[v0, v1, v2, v3, v4, v5, v6, v7, v8, v9]) "loop.example/reed/impl.fits") w = .ok (123, .agg #[v0, v1, v2, v3, v4, v5, v6, v7, v8, v9]) w := by kernel_rfl
theorem meth_head_try (v0 v1 v2 v3 v4 v5 v6 v7 v8 v9 : Value) (w : World) : Sem.run Tryz.prog (method 287 100 (.agg #[v0, v1, v2, v3, v4, v5, v6, v7, v8, v9]) "loop.example/reed/impl.head") w = .ok (102, .agg #[v0, v1, v2, v3, v4, v5, v6, v7, v8, v9]) w := by kernel_rfl
theorem meth_fits_try (v0 v1 v2 v3 v4 v5 v6 v7 v8 v9 : Value) (w : World) : Sem.run Tryz.prog (method 287 100 (.agg #[v0, v1, v2, v3, v4, v5, v6, v7, v8, v9]) "loop.example/reed/impl.fits") w = .ok (111, .agg #[v0, v1, v2, v3, v4, v5, v6, v7, v8, v9]) w := by kernel_rfl
theorem meth_head_two (v0 v1 v2 v3 v4 v5 v6 v7 v8 v9 : Value) (w : World) : Sem.run Tryz.prog (method 287 154 (.agg #[v0, v1, v2, v3, v4, v5, v6, v7, v8, v9]) "loop.example/reed/impl.head") w = .ok (102, .agg #[v0, v1, v2, v3, v4, v5, v6, v7, v8, v9]) w := by kernel_rfl
theorem meth_fits_two (v0 v1 v2 v3 v4 v5 v6 v7 v8 v9 : Value) (w : World) : Sem.run Tryz.prog (method 287 154 (.agg #[v0, v1, v2, v3, v4, v5, v6, v7, v8, v9]) "loop.example/reed/impl.fits") w = .ok (130, .agg #[v0, v1, v2, v3, v4, v5, v6, v7, v8, v9]) w := by kernel_rfl
theorem meth_head_unary (v0 v1 v2 v3 v4 v5 v6 v7 v8 v9 : Value) (w : World) : Sem.run Tryz.prog (method 287 155 (.agg #[v0, v1, v2, v3, v4, v5, v6, v7, v8, v9]) "loop.example/reed/impl.head") w = .ok (102, .agg #[v0, v1, v2, v3, v4, v5, v6, v7, v8, v9]) w := by kernel_rfl
theorem meth_fits_unary (v0 v1 v2 v3 v4 v5 v6 v7 v8 v9 : Value) (w : World) : Sem.run Tryz.prog (method 287 155 (.agg #[v0, v1, v2, v3, v4, v5, v6, v7, v8, v9]) "loop.example/reed/impl.fits") w = .ok (131, .agg #[v0, v1, v2, v3, v4, v5, v6, v7, v8, v9]) w := by kernel_rfl
theorem meth_head_up (v0 v1 v2 v3 v4 v5 v6 v7 v8 v9 : Value) (w : World) : Sem.run Tryz.prog (method 287 105 (.agg #[v0, v1, v2, v3, v4, v5, v6, v7, v8, v9]) "loop.example/reed/impl.head") w = .ok (102, .agg #[v0, v1, v2, v3, v4, v5, v6, v7, v8, v9]) w := by kernel_rfl
theorem meth_fits_up (v0 v1 v2 v3 v4 v5 v6 v7 v8 v9 : Value) (w : World) : Sem.run Tryz.prog (method 287 105 (.agg #[v0, v1, v2, v3, v4, v5, v6, v7, v8, v9]) "loop.example/reed/impl.fits") w = .ok (113, .agg #[v0, v1, v2, v3, v4, v5, v6, v7, v8, v9]) w := by kernel_rfl
theorem meth_head_var (v0 v1 v2 v3 v4 v5 v6 v7 v8 v9 : Value) (w : World) : Sem.run Tryz.prog (method 287 102 (.agg #[v0, v1, v2, v3, v4, v5, v6, v7, v8, v9]) "loop.example/reed/impl.head") w = .ok (102, .agg #[v0, v1, v2, v3, v4, v5, v6, v7, v8, v9]) w := by kernel_rfl
theorem meth_fits_var (v0 v1 v2 v3 v4 v5 v6 v7 v8 v9 : Value) (w : World) : Sem.run Tryz.prog (method 287 102 (.agg #[v0, v1, v2, v3, v4, v5, v6, v7, v8, v9]) "loop.example/reed/impl.fits") w = .ok (112, .agg #[v0, v1, v2, v3, v4, v5, v6, v7, v8, v9]) w := by kernel_rfl
theorem meth_head_while (v0 v1 v2 v3 v4 v5 v6 v7 v8 v9 : Value) (w : World) : Sem.run Tryz.prog (method 287 127 (.agg #[v0, v1, v2, v3, v4, v5, v6, v7, v8, v9]) "loop.example/reed/impl.head") w = .ok (102, .agg #[v0, v1, v2, v3, v4, v5, v6, v7, v8, v9]) w := by kernel_rfl
theorem meth_fits_while (v0 v1 v2 v3 v4 v5 v6 v7 v8 v9 : Value) (w : World) : Sem.run Tryz.prog (method 287 127 (.agg #[v0, v1, v2, v3, v4, v5, v6, v7, v8, v9]) "loop.example/reed/impl.fits") w = .ok (118, .agg #[v0, v1, v2, v3, v4, v5, v6, v7, v8, v9]) w := by kernel_rfl
theorem meth_head_strange (v0 v1 v2 v3 v4 v5 v6 v7 v8 v9 : Value) (w : World) : Sem.run Tryz.prog (method 287 121 (.agg #[v0, v1, v2, v3, v4, v5, v6, v7, v8, v9]) "loop.example/reed/impl.head") w = .ok (102, .agg #[v0, v1, v2, v3, v4, v5, v6, v7, v8, v9]) w := by kernel_rfl
theorem meth_fits_strange (v0 v1 v2 v3 v4 v5 v6 v7 v8 v9 : Value) (w : World) : Sem.run Tryz.prog (method 287 121 (.agg #[v0, v1, v2, v3, v4, v5, v6, v7, v8, v9]) "loop.example/reed/impl.fits") w = .ok (116, .agg #[v0, v1, v2, v3, v4, v5, v6, v7, v8, v9]) w := by kernel_rfl

def fitsK (k : Int) : FuncId :=
  if k = 1 then 117 else
  if k = 2 then 105 else
  if k = 3 then 119 else
  if k = 4 then 120 else
  if k = 14 then 120 else
  if k = 5 then 121 else
  if k = 6 then 118 else
  if k = 7 then 108 else
  if k = 8 then 110 else
  if k = 9 then 114 else
  if k = 10 then 114 else
  if k = 11 then 122 else
  if k = 12 then 111 else
  if k = 13 then 123 else
  if k = 20 then 124 else
  if k = 21 then 124 else
  if k = 22 then 124 else
  if k = 23 then 125 else
  if k = 24 then 126 else
  if k = 25 then 128 else
  if k = 26 then 112 else
  if k = 27 then 113 else
  if k = 28 then 129 else
  if k = 29 then 130 else
  if k = 30 then 130 else
  if k = 33 then 130 else
  if k = 31 then 131 else
  if k = 32 then 132 else
  if k = 34 then 133 else
  if k = 35 then 134 else
  if k = 36 then 103 else
  if k = 37 then 115 else
  if k = 38 then 135 else
  116
def fitsFn (d : ND) : FuncId := if d.nk ≤ 200 then fitsK d.kind else 116
/-- Do the fields of a node fit its row, when its kids have the kinds kf? -/
def fitK (d : ND) (kf : Nat → Int) : Bool :=
  if d.kind = 1 then usesB d false false false false false true && allB (fun i => classB 0 (kf i)) 0 d.nk else
  if d.kind = 2 then usesB d false false false false true true && decide (1 ≤ (d.nr : Int)) && allB (fun i => classB 1 (kf i)) 0 d.nk else
  if d.kind = 3 then usesB d false true false false false true && decide (1 ≤ d.num) && decide (d.num < d.nk) && allB (fun i => classB 7 (kf i)) 0 d.num.toNat && allB (fun i => classB 1 (kf (d.num.toNat + i))) 0 (d.nk - d.num.toNat) else
  if d.kind = 4 then usesB d false false false false false true && kidsC [4] d.nk kf else
  if d.kind = 14 then usesB d false false false false false true && kidsC [4] d.nk kf else
  if d.kind = 5 then usesB d false false false false false true && (kidsC [1, 2] d.nk kf || kidsC [1, 2, 3] d.nk kf) else
  if d.kind = 6 then usesB d false false false false false true && kidsC [1, 2] d.nk kf else
  if d.kind = 7 then usesB d false false false false true true && ((d.nr : Int) == 1) && kidsC [1, 1, 1, 2] d.nk kf else
  if d.kind = 8 then usesB d false false false false true true && (decide (1 ≤ (d.nr : Int)) && decide ((d.nr : Int) ≤ 4)) && kidsC [1, 2] d.nk kf else
  if d.kind = 9 then usesB d false false false false false false else
  if d.kind = 10 then usesB d false false false false false false else
  if d.kind = 11 then usesB d false false false false false true && allB (fun i => classB 1 (kf i)) 0 d.nk else
  if d.kind = 12 then usesB d false false false false true true && ((d.nr : Int) == 2) && kidsC [2, 2] d.nk kf else
  if d.kind = 13 then usesB d false false false false false true && kidsC [1] d.nk kf else
  if d.kind = 20 then usesB d false false false false false false else
  if d.kind = 21 then usesB d false false false false false false else
  if d.kind = 22 then usesB d false false false false false false else
  if d.kind = 23 then usesB d false true false false false false else
  if d.kind = 24 then usesB d false false true false false false && fnum d.flt else
  if d.kind = 25 then usesB d false false false true false false && (decide ((d.str.size : Int) ≤ 4000)) else
  if d.kind = 26 then usesB d false false false false true false && ((d.nr : Int) == 1) else
  if d.kind = 27 then usesB d false false false false true false && ((d.nr : Int) == 1) else
  if d.kind = 28 then usesB d false true false false false false && (decide (0 ≤ d.num) && decide (d.num < 15)) else
  if d.kind = 29 then usesB d false false false false false true && kidsC [1, 1] d.nk kf else
  if d.kind = 30 then usesB d false false false false false true && kidsC [1, 1] d.nk kf else
  if d.kind = 33 then usesB d false false false false false true && kidsC [1, 1] d.nk kf else
  if d.kind = 31 then usesB d true false false false false true && (decide (19 ≤ d.op) && decide (d.op ≤ 22)) && kidsC [1] d.nk kf else
  if d.kind = 32 then usesB d true false false false false true && (decide (1 ≤ d.op) && decide (d.op ≤ 18)) && kidsC [1, 1] d.nk kf else
  if d.kind = 34 then usesB d false false false false false true && decide (1 ≤ (d.nk : Int)) && allB (fun i => classB 1 (kf i)) 0 d.nk else
  if d.kind = 35 then usesB d true false false false false true && ((d.nk : Int) % 2 == 0) && allB (fun i => classB 1 (kf i)) 0 d.nk && (d.op == 0 || d.op == 1 && decide (2 ≤ (d.nk : Int)) && classB 6 (kf (d.nk - 2)) && classB 5 (kf (d.nk - 1))) else
  if d.kind = 36 then usesB d false false false false true false && ((d.nr : Int) == 1) else
  if d.kind = 37 then usesB d false false false false false false else
  if d.kind = 38 then usesB d false false false false false true && kidsC [5] d.nk kf else
  false
def fitB (d : ND) (kf : Nat → Int) : Bool := if d.nk ≤ 200 then fitK d kf else false

/-- Every kind is one of these, or strange. -/
theorem kinds_all (k : Int) : k = 1 ∨ k = 2 ∨ k = 3 ∨ k = 4 ∨ k = 14 ∨ k = 5 ∨ k = 6 ∨ k = 7 ∨ k = 8 ∨ k = 9 ∨ k = 10 ∨ k = 11 ∨ k = 12 ∨ k = 13 ∨ k = 20 ∨ k = 21 ∨ k = 22 ∨ k = 23 ∨ k = 24 ∨ k = 25 ∨ k = 26 ∨ k = 27 ∨ k = 28 ∨ k = 29 ∨ k = 30 ∨ k = 33 ∨ k = 31 ∨ k = 32 ∨ k = 34 ∨ k = 35 ∨ k = 36 ∨ k = 37 ∨ k = 38 ∨ (formT k = 121 ∧ fitsK k = 116 ∧ ∀ d : ND, d.kind = k → ∀ kf, fitK d kf = false) := by
  by_cases e1 : k = 1
  · simp [e1]
  by_cases e2 : k = 2
  · simp [e2]
  by_cases e3 : k = 3
  · simp [e3]
  by_cases e4 : k = 4
  · simp [e4]
  by_cases e14 : k = 14
  · simp [e14]
  by_cases e5 : k = 5
  · simp [e5]
  by_cases e6 : k = 6
  · simp [e6]
  by_cases e7 : k = 7
  · simp [e7]
  by_cases e8 : k = 8
  · simp [e8]
  by_cases e9 : k = 9
  · simp [e9]
  by_cases e10 : k = 10
  · simp [e10]
  by_cases e11 : k = 11
  · simp [e11]
  by_cases e12 : k = 12
  · simp [e12]
  by_cases e13 : k = 13
  · simp [e13]
  by_cases e20 : k = 20
  · simp [e20]
  by_cases e21 : k = 21
  · simp [e21]
  by_cases e22 : k = 22
  · simp [e22]
  by_cases e23 : k = 23
  · simp [e23]
  by_cases e24 : k = 24
  · simp [e24]
  by_cases e25 : k = 25
  · simp [e25]
  by_cases e26 : k = 26
  · simp [e26]
  by_cases e27 : k = 27
  · simp [e27]
  by_cases e28 : k = 28
  · simp [e28]
  by_cases e29 : k = 29
  · simp [e29]
  by_cases e30 : k = 30
  · simp [e30]
  by_cases e33 : k = 33
  · simp [e33]
  by_cases e31 : k = 31
  · simp [e31]
  by_cases e32 : k = 32
  · simp [e32]
  by_cases e34 : k = 34
  · simp [e34]
  by_cases e35 : k = 35
  · simp [e35]
  by_cases e36 : k = 36
  · simp [e36]
  by_cases e37 : k = 37
  · simp [e37]
  by_cases e38 : k = 38
  · simp [e38]
  refine Or.inr (Or.inr (Or.inr (Or.inr (Or.inr (Or.inr (Or.inr (Or.inr (Or.inr (Or.inr (Or.inr (Or.inr (Or.inr (Or.inr (Or.inr (Or.inr (Or.inr (Or.inr (Or.inr (Or.inr (Or.inr (Or.inr (Or.inr (Or.inr (Or.inr (Or.inr (Or.inr (Or.inr (Or.inr (Or.inr (Or.inr (Or.inr (Or.inr (⟨?_, ?_, fun d hd kf => ?_⟩)))))))))))))))))))))))))))))))))
  · unfold formT; rw [if_neg e1, if_neg e2, if_neg e3, if_neg e4, if_neg e14, if_neg e5, if_neg e6, if_neg e7, if_neg e8, if_neg e9, if_neg e10, if_neg e11, if_neg e12, if_neg e13, if_neg e20, if_neg e21, if_neg e22, if_neg e23, if_neg e24, if_neg e25, if_neg e26, if_neg e27, if_neg e28, if_neg e29, if_neg e30, if_neg e33, if_neg e31, if_neg e32, if_neg e34, if_neg e35, if_neg e36, if_neg e37, if_neg e38]
  · unfold fitsK; rw [if_neg e1, if_neg e2, if_neg e3, if_neg e4, if_neg e14, if_neg e5, if_neg e6, if_neg e7, if_neg e8, if_neg e9, if_neg e10, if_neg e11, if_neg e12, if_neg e13, if_neg e20, if_neg e21, if_neg e22, if_neg e23, if_neg e24, if_neg e25, if_neg e26, if_neg e27, if_neg e28, if_neg e29, if_neg e30, if_neg e33, if_neg e31, if_neg e32, if_neg e34, if_neg e35, if_neg e36, if_neg e37, if_neg e38]
  · subst hd; unfold fitK; rw [if_neg e1, if_neg e2, if_neg e3, if_neg e4, if_neg e14, if_neg e5, if_neg e6, if_neg e7, if_neg e8, if_neg e9, if_neg e10, if_neg e11, if_neg e12, if_neg e13, if_neg e20, if_neg e21, if_neg e22, if_neg e23, if_neg e24, if_neg e25, if_neg e26, if_neg e27, if_neg e28, if_neg e29, if_neg e30, if_neg e33, if_neg e31, if_neg e32, if_neg e34, if_neg e35, if_neg e36, if_neg e37, if_neg e38]

theorem meth_head (d : ND) (v0 v1 v2 v3 v4 v5 v6 v7 v8 v9 : Value) (w : World) : Sem.run Tryz.prog (method 287 (fmT d) (.agg #[v0, v1, v2, v3, v4, v5, v6, v7, v8, v9]) "loop.example/reed/impl.head") w = .ok (102, .agg #[v0, v1, v2, v3, v4, v5, v6, v7, v8, v9]) w := by
  unfold fmT
  by_cases h : d.nk ≤ 200
  · rw [if_pos h]
    rcases kinds_all d.kind with h | h | h | h | h | h | h | h | h | h | h | h | h | h | h | h | h | h | h | h | h | h | h | h | h | h | h | h | h | h | h | h | h | ⟨h, _⟩
    · rw [h]; exact meth_head_block v0 v1 v2 v3 v4 v5 v6 v7 v8 v9 w
    · rw [h]; exact meth_head_let v0 v1 v2 v3 v4 v5 v6 v7 v8 v9 w
    · rw [h]; exact meth_head_set v0 v1 v2 v3 v4 v5 v6 v7 v8 v9 w
    · rw [h]; exact meth_head_do v0 v1 v2 v3 v4 v5 v6 v7 v8 v9 w
    · rw [h]; exact meth_head_do v0 v1 v2 v3 v4 v5 v6 v7 v8 v9 w
    · rw [h]; exact meth_head_if v0 v1 v2 v3 v4 v5 v6 v7 v8 v9 w
    · rw [h]; exact meth_head_while v0 v1 v2 v3 v4 v5 v6 v7 v8 v9 w
    · rw [h]; exact meth_head_for v0 v1 v2 v3 v4 v5 v6 v7 v8 v9 w
    · rw [h]; exact meth_head_each v0 v1 v2 v3 v4 v5 v6 v7 v8 v9 w
    · rw [h]; exact meth_head_jump v0 v1 v2 v3 v4 v5 v6 v7 v8 v9 w
    · rw [h]; exact meth_head_jump v0 v1 v2 v3 v4 v5 v6 v7 v8 v9 w
    · rw [h]; exact meth_head_return v0 v1 v2 v3 v4 v5 v6 v7 v8 v9 w
    · rw [h]; exact meth_head_try v0 v1 v2 v3 v4 v5 v6 v7 v8 v9 w
    · rw [h]; exact meth_head_throw v0 v1 v2 v3 v4 v5 v6 v7 v8 v9 w
    · rw [h]; exact meth_head_bare v0 v1 v2 v3 v4 v5 v6 v7 v8 v9 w
    · rw [h]; exact meth_head_bare v0 v1 v2 v3 v4 v5 v6 v7 v8 v9 w
    · rw [h]; exact meth_head_bare v0 v1 v2 v3 v4 v5 v6 v7 v8 v9 w
    · rw [h]; exact meth_head_int v0 v1 v2 v3 v4 v5 v6 v7 v8 v9 w
    · rw [h]; exact meth_head_flt v0 v1 v2 v3 v4 v5 v6 v7 v8 v9 w
    · rw [h]; exact meth_head_str v0 v1 v2 v3 v4 v5 v6 v7 v8 v9 w
    · rw [h]; exact meth_head_var v0 v1 v2 v3 v4 v5 v6 v7 v8 v9 w
    · rw [h]; exact meth_head_up v0 v1 v2 v3 v4 v5 v6 v7 v8 v9 w
    · rw [h]; exact meth_head_builtin v0 v1 v2 v3 v4 v5 v6 v7 v8 v9 w
    · rw [h]; exact meth_head_two v0 v1 v2 v3 v4 v5 v6 v7 v8 v9 w
    · rw [h]; exact meth_head_two v0 v1 v2 v3 v4 v5 v6 v7 v8 v9 w
    · rw [h]; exact meth_head_two v0 v1 v2 v3 v4 v5 v6 v7 v8 v9 w
    · rw [h]; exact meth_head_unary v0 v1 v2 v3 v4 v5 v6 v7 v8 v9 w
    · rw [h]; exact meth_head_binary v0 v1 v2 v3 v4 v5 v6 v7 v8 v9 w
    · rw [h]; exact meth_head_call v0 v1 v2 v3 v4 v5 v6 v7 v8 v9 w
    · rw [h]; exact meth_head_table v0 v1 v2 v3 v4 v5 v6 v7 v8 v9 w
    · rw [h]; exact meth_head_fn v0 v1 v2 v3 v4 v5 v6 v7 v8 v9 w
    · rw [h]; exact meth_head_rest v0 v1 v2 v3 v4 v5 v6 v7 v8 v9 w
    · rw [h]; exact meth_head_one v0 v1 v2 v3 v4 v5 v6 v7 v8 v9 w
    · rw [h]; exact meth_head_strange v0 v1 v2 v3 v4 v5 v6 v7 v8 v9 w
  · rw [if_neg h]; exact meth_head_strange v0 v1 v2 v3 v4 v5 v6 v7 v8 v9 w
theorem meth_fits (d : ND) (v0 v1 v2 v3 v4 v5 v6 v7 v8 v9 : Value) (w : World) : Sem.run Tryz.prog (method 287 (fmT d) (.agg #[v0, v1, v2, v3, v4, v5, v6, v7, v8, v9]) "loop.example/reed/impl.fits") w = .ok (fitsFn d, .agg #[v0, v1, v2, v3, v4, v5, v6, v7, v8, v9]) w := by
  unfold fmT fitsFn
  by_cases h : d.nk ≤ 200
  · rw [if_pos h, if_pos h]
    rcases kinds_all d.kind with h | h | h | h | h | h | h | h | h | h | h | h | h | h | h | h | h | h | h | h | h | h | h | h | h | h | h | h | h | h | h | h | h | ⟨h, h2, _⟩
    · rw [h]; exact meth_fits_block v0 v1 v2 v3 v4 v5 v6 v7 v8 v9 w
    · rw [h]; exact meth_fits_let v0 v1 v2 v3 v4 v5 v6 v7 v8 v9 w
    · rw [h]; exact meth_fits_set v0 v1 v2 v3 v4 v5 v6 v7 v8 v9 w
    · rw [h]; exact meth_fits_do v0 v1 v2 v3 v4 v5 v6 v7 v8 v9 w
    · rw [h]; exact meth_fits_do v0 v1 v2 v3 v4 v5 v6 v7 v8 v9 w
    · rw [h]; exact meth_fits_if v0 v1 v2 v3 v4 v5 v6 v7 v8 v9 w
    · rw [h]; exact meth_fits_while v0 v1 v2 v3 v4 v5 v6 v7 v8 v9 w
    · rw [h]; exact meth_fits_for v0 v1 v2 v3 v4 v5 v6 v7 v8 v9 w
    · rw [h]; exact meth_fits_each v0 v1 v2 v3 v4 v5 v6 v7 v8 v9 w
    · rw [h]; exact meth_fits_jump v0 v1 v2 v3 v4 v5 v6 v7 v8 v9 w
    · rw [h]; exact meth_fits_jump v0 v1 v2 v3 v4 v5 v6 v7 v8 v9 w
    · rw [h]; exact meth_fits_return v0 v1 v2 v3 v4 v5 v6 v7 v8 v9 w
    · rw [h]; exact meth_fits_try v0 v1 v2 v3 v4 v5 v6 v7 v8 v9 w
    · rw [h]; exact meth_fits_throw v0 v1 v2 v3 v4 v5 v6 v7 v8 v9 w
    · rw [h]; exact meth_fits_bare v0 v1 v2 v3 v4 v5 v6 v7 v8 v9 w
    · rw [h]; exact meth_fits_bare v0 v1 v2 v3 v4 v5 v6 v7 v8 v9 w
    · rw [h]; exact meth_fits_bare v0 v1 v2 v3 v4 v5 v6 v7 v8 v9 w
    · rw [h]; exact meth_fits_int v0 v1 v2 v3 v4 v5 v6 v7 v8 v9 w
    · rw [h]; exact meth_fits_flt v0 v1 v2 v3 v4 v5 v6 v7 v8 v9 w
    · rw [h]; exact meth_fits_str v0 v1 v2 v3 v4 v5 v6 v7 v8 v9 w
    · rw [h]; exact meth_fits_var v0 v1 v2 v3 v4 v5 v6 v7 v8 v9 w
    · rw [h]; exact meth_fits_up v0 v1 v2 v3 v4 v5 v6 v7 v8 v9 w
    · rw [h]; exact meth_fits_builtin v0 v1 v2 v3 v4 v5 v6 v7 v8 v9 w
    · rw [h]; exact meth_fits_two v0 v1 v2 v3 v4 v5 v6 v7 v8 v9 w
    · rw [h]; exact meth_fits_two v0 v1 v2 v3 v4 v5 v6 v7 v8 v9 w
    · rw [h]; exact meth_fits_two v0 v1 v2 v3 v4 v5 v6 v7 v8 v9 w
    · rw [h]; exact meth_fits_unary v0 v1 v2 v3 v4 v5 v6 v7 v8 v9 w
    · rw [h]; exact meth_fits_binary v0 v1 v2 v3 v4 v5 v6 v7 v8 v9 w
    · rw [h]; exact meth_fits_call v0 v1 v2 v3 v4 v5 v6 v7 v8 v9 w
    · rw [h]; exact meth_fits_table v0 v1 v2 v3 v4 v5 v6 v7 v8 v9 w
    · rw [h]; exact meth_fits_fn v0 v1 v2 v3 v4 v5 v6 v7 v8 v9 w
    · rw [h]; exact meth_fits_rest v0 v1 v2 v3 v4 v5 v6 v7 v8 v9 w
    · rw [h]; exact meth_fits_one v0 v1 v2 v3 v4 v5 v6 v7 v8 v9 w
    · rw [h, h2]; exact meth_fits_strange v0 v1 v2 v3 v4 v5 v6 v7 v8 v9 w
  · rw [if_neg h, if_neg h]; exact meth_fits_strange v0 v1 v2 v3 v4 v5 v6 v7 v8 v9 w

theorem call_fits_bare (v : Value) (w : World) : Sem.run Tryz.prog (callFunc 124 #[v]) w = .ok (.enter 124 #[v]) w := by kernel_rfl
theorem call_fits_binary (v : Value) (w : World) : Sem.run Tryz.prog (callFunc 132 #[v]) w = .ok (.enter 132 #[v]) w := by kernel_rfl
theorem call_fits_block (v : Value) (w : World) : Sem.run Tryz.prog (callFunc 117 #[v]) w = .ok (.enter 117 #[v]) w := by kernel_rfl
theorem call_fits_builtin (v : Value) (w : World) : Sem.run Tryz.prog (callFunc 129 #[v]) w = .ok (.enter 129 #[v]) w := by kernel_rfl
theorem call_fits_call (v : Value) (w : World) : Sem.run Tryz.prog (callFunc 133 #[v]) w = .ok (.enter 133 #[v]) w := by kernel_rfl
theorem call_fits_do (v : Value) (w : World) : Sem.run Tryz.prog (callFunc 120 #[v]) w = .ok (.enter 120 #[v]) w := by kernel_rfl
theorem call_fits_each (v : Value) (w : World) : Sem.run Tryz.prog (callFunc 110 #[v]) w = .ok (.enter 110 #[v]) w := by kernel_rfl
theorem call_fits_flt (v : Value) (w : World) : Sem.run Tryz.prog (callFunc 126 #[v]) w = .ok (.enter 126 #[v]) w := by kernel_rfl
theorem call_fits_fn (v : Value) (w : World) : Sem.run Tryz.prog (callFunc 103 #[v]) w = .ok (.enter 103 #[v]) w := by kernel_rfl
theorem call_fits_for (v : Value) (w : World) : Sem.run Tryz.prog (callFunc 108 #[v]) w = .ok (.enter 108 #[v]) w := by kernel_rfl
theorem call_fits_if (v : Value) (w : World) : Sem.run Tryz.prog (callFunc 121 #[v]) w = .ok (.enter 121 #[v]) w := by kernel_rfl
theorem call_fits_int (v : Value) (w : World) : Sem.run Tryz.prog (callFunc 125 #[v]) w = .ok (.enter 125 #[v]) w := by kernel_rfl
theorem call_fits_jump (v : Value) (w : World) : Sem.run Tryz.prog (callFunc 114 #[v]) w = .ok (.enter 114 #[v]) w := by kernel_rfl
theorem call_fits_let (v : Value) (w : World) : Sem.run Tryz.prog (callFunc 105 #[v]) w = .ok (.enter 105 #[v]) w := by kernel_rfl
theorem call_fits_one (v : Value) (w : World) : Sem.run Tryz.prog (callFunc 135 #[v]) w = .ok (.enter 135 #[v]) w := by kernel_rfl
theorem call_fits_rest (v : Value) (w : World) : Sem.run Tryz.prog (callFunc 115 #[v]) w = .ok (.enter 115 #[v]) w := by kernel_rfl
theorem call_fits_return (v : Value) (w : World) : Sem.run Tryz.prog (callFunc 122 #[v]) w = .ok (.enter 122 #[v]) w := by kernel_rfl
theorem call_fits_set (v : Value) (w : World) : Sem.run Tryz.prog (callFunc 119 #[v]) w = .ok (.enter 119 #[v]) w := by kernel_rfl
theorem call_fits_str (v : Value) (w : World) : Sem.run Tryz.prog (callFunc 128 #[v]) w = .ok (.enter 128 #[v]) w := by kernel_rfl
theorem call_fits_table (v : Value) (w : World) : Sem.run Tryz.prog (callFunc 134 #[v]) w = .ok (.enter 134 #[v]) w := by kernel_rfl
theorem call_fits_throw (v : Value) (w : World) : Sem.run Tryz.prog (callFunc 123 #[v]) w = .ok (.enter 123 #[v]) w := by kernel_rfl
theorem call_fits_try (v : Value) (w : World) : Sem.run Tryz.prog (callFunc 111 #[v]) w = .ok (.enter 111 #[v]) w := by kernel_rfl
theorem call_fits_two (v : Value) (w : World) : Sem.run Tryz.prog (callFunc 130 #[v]) w = .ok (.enter 130 #[v]) w := by kernel_rfl
theorem call_fits_unary (v : Value) (w : World) : Sem.run Tryz.prog (callFunc 131 #[v]) w = .ok (.enter 131 #[v]) w := by kernel_rfl
theorem call_fits_up (v : Value) (w : World) : Sem.run Tryz.prog (callFunc 113 #[v]) w = .ok (.enter 113 #[v]) w := by kernel_rfl
theorem call_fits_var (v : Value) (w : World) : Sem.run Tryz.prog (callFunc 112 #[v]) w = .ok (.enter 112 #[v]) w := by kernel_rfl
theorem call_fits_while (v : Value) (w : World) : Sem.run Tryz.prog (callFunc 118 #[v]) w = .ok (.enter 118 #[v]) w := by kernel_rfl
theorem call_fits_strange (v : Value) (w : World) : Sem.run Tryz.prog (callFunc 116 #[v]) w = .ok (.enter 116 #[v]) w := by kernel_rfl
theorem call_fits (d : ND) (v : Value) (w : World) : Sem.run Tryz.prog (callFunc (fitsFn d) #[v]) w = .ok (.enter (fitsFn d) #[v]) w := by
  unfold fitsFn
  by_cases h : d.nk ≤ 200
  · rw [if_pos h]
    rcases kinds_all d.kind with h | h | h | h | h | h | h | h | h | h | h | h | h | h | h | h | h | h | h | h | h | h | h | h | h | h | h | h | h | h | h | h | h | ⟨_, h, _⟩
    · rw [h]; exact call_fits_block v w
    · rw [h]; exact call_fits_let v w
    · rw [h]; exact call_fits_set v w
    · rw [h]; exact call_fits_do v w
    · rw [h]; exact call_fits_do v w
    · rw [h]; exact call_fits_if v w
    · rw [h]; exact call_fits_while v w
    · rw [h]; exact call_fits_for v w
    · rw [h]; exact call_fits_each v w
    · rw [h]; exact call_fits_jump v w
    · rw [h]; exact call_fits_jump v w
    · rw [h]; exact call_fits_return v w
    · rw [h]; exact call_fits_try v w
    · rw [h]; exact call_fits_throw v w
    · rw [h]; exact call_fits_bare v w
    · rw [h]; exact call_fits_bare v w
    · rw [h]; exact call_fits_bare v w
    · rw [h]; exact call_fits_int v w
    · rw [h]; exact call_fits_flt v w
    · rw [h]; exact call_fits_str v w
    · rw [h]; exact call_fits_var v w
    · rw [h]; exact call_fits_up v w
    · rw [h]; exact call_fits_builtin v w
    · rw [h]; exact call_fits_two v w
    · rw [h]; exact call_fits_two v w
    · rw [h]; exact call_fits_two v w
    · rw [h]; exact call_fits_unary v w
    · rw [h]; exact call_fits_binary v w
    · rw [h]; exact call_fits_call v w
    · rw [h]; exact call_fits_table v w
    · rw [h]; exact call_fits_fn v w
    · rw [h]; exact call_fits_rest v w
    · rw [h]; exact call_fits_one v w
    · rw [h]; exact call_fits_strange v w
  · rw [if_neg h]; exact call_fits_strange v w

theorem fits_all (m : NM) (p : Int) (kk : Option Addr) (kf : Nat → Int) (w : World) (hk : IntsAt w kk (knN m.toND) kf) :
    Calls Tryz.prog (fitsFn m.toND) #[.agg #[.int .i64 p, .int .i64 m.kind, .int .i64 m.line, .int .i64 m.op, .int .i64 m.num, .float .f64 m.flt, .string m.str, .slice m.ra m.nr m.rc, .slice m.ka m.nk m.kc, .slice kk (knN m.toND) (knN m.toND)]] w fun e w' => e = .returned (.bool (fitB m.toND kf)) ∧ Onw w w' := by
  unfold fitsFn fitB
  by_cases h : m.nk ≤ 200
  · rw [if_pos h, if_pos h]
    have hkn : knN m.toND = m.nk := by unfold knN; rw [if_pos h]
    rw [hkn] at hk ⊢
    rcases kinds_all m.kind with h | h | h | h | h | h | h | h | h | h | h | h | h | h | h | h | h | h | h | h | h | h | h | h | h | h | h | h | h | h | h | h | h | ⟨_, h2, h3⟩
    · have e1 : fitsK m.kind = 117 := by rw [h]; rfl
      have e2 : fitK m.toND kf = (usesB m.toND false false false false false true && allB (fun i => classB 0 (kf i)) 0 m.nk) := by unfold fitK; simp only [h, if_true] <;> try rfl
      rw [e1, e2]; exact fits_blockForm m p kk m.nk m.nk kf w (by omega) hk
    · have e1 : fitsK m.kind = 105 := by rw [h]; rfl
      have e2 : fitK m.toND kf = (usesB m.toND false false false false true true && decide (1 ≤ (m.nr : Int)) && allB (fun i => classB 1 (kf i)) 0 m.nk) := by unfold fitK; simp only [h, if_true] <;> try rfl
      rw [e1, e2]; exact fits_letForm m p kk m.nk m.nk kf w (by omega) hk
    · have e1 : fitsK m.kind = 119 := by rw [h]; rfl
      have e2 : fitK m.toND kf = (usesB m.toND false true false false false true && decide (1 ≤ m.num) && decide (m.num < m.nk) && allB (fun i => classB 7 (kf i)) 0 m.num.toNat && allB (fun i => classB 1 (kf (m.num.toNat + i))) 0 (m.nk - m.num.toNat)) := by unfold fitK; simp only [h, if_true] <;> try rfl
      rw [e1, e2]; exact fits_setForm m p kk m.nk m.nk kf w (by omega) (Nat.le_refl _) hk
    · have e1 : fitsK m.kind = 120 := by rw [h]; rfl
      have e2 : fitK m.toND kf = (usesB m.toND false false false false false true && kidsC [4] m.nk kf) := by unfold fitK; simp only [h, if_true] <;> try rfl
      rw [e1, e2]; exact fits_doForm m p kk m.nk m.nk kf w (by omega) hk
    · have e1 : fitsK m.kind = 120 := by rw [h]; rfl
      have e2 : fitK m.toND kf = (usesB m.toND false false false false false true && kidsC [4] m.nk kf) := by unfold fitK; simp only [h, if_true] <;> try rfl
      rw [e1, e2]; exact fits_doForm m p kk m.nk m.nk kf w (by omega) hk
    · have e1 : fitsK m.kind = 121 := by rw [h]; rfl
      have e2 : fitK m.toND kf = (usesB m.toND false false false false false true && (kidsC [1, 2] m.nk kf || kidsC [1, 2, 3] m.nk kf)) := by unfold fitK; simp only [h, if_true] <;> try rfl
      rw [e1, e2]; exact fits_ifForm m p kk m.nk m.nk kf w (by omega) hk
    · have e1 : fitsK m.kind = 118 := by rw [h]; rfl
      have e2 : fitK m.toND kf = (usesB m.toND false false false false false true && kidsC [1, 2] m.nk kf) := by unfold fitK; simp only [h, if_true] <;> try rfl
      rw [e1, e2]; exact fits_whileForm m p kk m.nk m.nk kf w (by omega) hk
    · have e1 : fitsK m.kind = 108 := by rw [h]; rfl
      have e2 : fitK m.toND kf = (usesB m.toND false false false false true true && ((m.nr : Int) == 1) && kidsC [1, 1, 1, 2] m.nk kf) := by unfold fitK; simp only [h, if_true] <;> try rfl
      rw [e1, e2]; exact fits_forForm m p kk m.nk m.nk kf w (by omega) hk
    · have e1 : fitsK m.kind = 110 := by rw [h]; rfl
      have e2 : fitK m.toND kf = (usesB m.toND false false false false true true && (decide (1 ≤ (m.nr : Int)) && decide ((m.nr : Int) ≤ 4)) && kidsC [1, 2] m.nk kf) := by unfold fitK; simp only [h, if_true] <;> try rfl
      rw [e1, e2]; exact fits_eachForm m p kk m.nk m.nk kf w (by omega) hk
    · have e1 : fitsK m.kind = 114 := by rw [h]; rfl
      have e2 : fitK m.toND kf = (usesB m.toND false false false false false false) := by unfold fitK; simp only [h, if_true] <;> try rfl
      rw [e1, e2]; exact fits_jumpForm m p kk m.nk m.nk w
    · have e1 : fitsK m.kind = 114 := by rw [h]; rfl
      have e2 : fitK m.toND kf = (usesB m.toND false false false false false false) := by unfold fitK; simp only [h, if_true] <;> try rfl
      rw [e1, e2]; exact fits_jumpForm m p kk m.nk m.nk w
    · have e1 : fitsK m.kind = 122 := by rw [h]; rfl
      have e2 : fitK m.toND kf = (usesB m.toND false false false false false true && allB (fun i => classB 1 (kf i)) 0 m.nk) := by unfold fitK; simp only [h, if_true] <;> try rfl
      rw [e1, e2]; exact fits_returnForm m p kk m.nk m.nk kf w (by omega) hk
    · have e1 : fitsK m.kind = 111 := by rw [h]; rfl
      have e2 : fitK m.toND kf = (usesB m.toND false false false false true true && ((m.nr : Int) == 2) && kidsC [2, 2] m.nk kf) := by unfold fitK; simp only [h, if_true] <;> try rfl
      rw [e1, e2]; exact fits_tryForm m p kk m.nk m.nk kf w (by omega) hk
    · have e1 : fitsK m.kind = 123 := by rw [h]; rfl
      have e2 : fitK m.toND kf = (usesB m.toND false false false false false true && kidsC [1] m.nk kf) := by unfold fitK; simp only [h, if_true] <;> try rfl
      rw [e1, e2]; exact fits_throwForm m p kk m.nk m.nk kf w (by omega) hk
    · have e1 : fitsK m.kind = 124 := by rw [h]; rfl
      have e2 : fitK m.toND kf = (usesB m.toND false false false false false false) := by unfold fitK; simp only [h, if_true] <;> try rfl
      rw [e1, e2]; exact fits_bareForm m p kk m.nk m.nk w
    · have e1 : fitsK m.kind = 124 := by rw [h]; rfl
      have e2 : fitK m.toND kf = (usesB m.toND false false false false false false) := by unfold fitK; simp only [h, if_true] <;> try rfl
      rw [e1, e2]; exact fits_bareForm m p kk m.nk m.nk w
    · have e1 : fitsK m.kind = 124 := by rw [h]; rfl
      have e2 : fitK m.toND kf = (usesB m.toND false false false false false false) := by unfold fitK; simp only [h, if_true] <;> try rfl
      rw [e1, e2]; exact fits_bareForm m p kk m.nk m.nk w
    · have e1 : fitsK m.kind = 125 := by rw [h]; rfl
      have e2 : fitK m.toND kf = (usesB m.toND false true false false false false) := by unfold fitK; simp only [h, if_true] <;> try rfl
      rw [e1, e2]; exact fits_intForm m p kk m.nk m.nk w
    · have e1 : fitsK m.kind = 126 := by rw [h]; rfl
      have e2 : fitK m.toND kf = (usesB m.toND false false true false false false && fnum m.flt) := by unfold fitK; simp only [h, if_true] <;> try rfl
      rw [e1, e2]; exact fits_fltForm m p kk m.nk m.nk w
    · have e1 : fitsK m.kind = 128 := by rw [h]; rfl
      have e2 : fitK m.toND kf = (usesB m.toND false false false true false false && (decide ((m.str.size : Int) ≤ 4000))) := by unfold fitK; simp only [h, if_true] <;> try rfl
      rw [e1, e2]; exact fits_strForm m p kk m.nk m.nk w
    · have e1 : fitsK m.kind = 112 := by rw [h]; rfl
      have e2 : fitK m.toND kf = (usesB m.toND false false false false true false && ((m.nr : Int) == 1)) := by unfold fitK; simp only [h, if_true] <;> try rfl
      rw [e1, e2]; exact fits_varForm m p kk m.nk m.nk w
    · have e1 : fitsK m.kind = 113 := by rw [h]; rfl
      have e2 : fitK m.toND kf = (usesB m.toND false false false false true false && ((m.nr : Int) == 1)) := by unfold fitK; simp only [h, if_true] <;> try rfl
      rw [e1, e2]; exact fits_upForm m p kk m.nk m.nk w
    · have e1 : fitsK m.kind = 129 := by rw [h]; rfl
      have e2 : fitK m.toND kf = (usesB m.toND false true false false false false && (decide (0 ≤ m.num) && decide (m.num < 15))) := by unfold fitK; simp only [h, if_true] <;> try rfl
      rw [e1, e2]; exact fits_builtinForm m p kk m.nk m.nk w
    · have e1 : fitsK m.kind = 130 := by rw [h]; rfl
      have e2 : fitK m.toND kf = (usesB m.toND false false false false false true && kidsC [1, 1] m.nk kf) := by unfold fitK; simp only [h, if_true] <;> try rfl
      rw [e1, e2]; exact fits_twoForm m p kk m.nk m.nk kf w (by omega) hk
    · have e1 : fitsK m.kind = 130 := by rw [h]; rfl
      have e2 : fitK m.toND kf = (usesB m.toND false false false false false true && kidsC [1, 1] m.nk kf) := by unfold fitK; simp only [h, if_true] <;> try rfl
      rw [e1, e2]; exact fits_twoForm m p kk m.nk m.nk kf w (by omega) hk
    · have e1 : fitsK m.kind = 130 := by rw [h]; rfl
      have e2 : fitK m.toND kf = (usesB m.toND false false false false false true && kidsC [1, 1] m.nk kf) := by unfold fitK; simp only [h, if_true] <;> try rfl
      rw [e1, e2]; exact fits_twoForm m p kk m.nk m.nk kf w (by omega) hk
    · have e1 : fitsK m.kind = 131 := by rw [h]; rfl
      have e2 : fitK m.toND kf = (usesB m.toND true false false false false true && (decide (19 ≤ m.op) && decide (m.op ≤ 22)) && kidsC [1] m.nk kf) := by unfold fitK; simp only [h, if_true] <;> try rfl
      rw [e1, e2]; exact fits_unaryForm m p kk m.nk m.nk kf w (by omega) hk
    · have e1 : fitsK m.kind = 132 := by rw [h]; rfl
      have e2 : fitK m.toND kf = (usesB m.toND true false false false false true && (decide (1 ≤ m.op) && decide (m.op ≤ 18)) && kidsC [1, 1] m.nk kf) := by unfold fitK; simp only [h, if_true] <;> try rfl
      rw [e1, e2]; exact fits_binaryForm m p kk m.nk m.nk kf w (by omega) hk
    · have e1 : fitsK m.kind = 133 := by rw [h]; rfl
      have e2 : fitK m.toND kf = (usesB m.toND false false false false false true && decide (1 ≤ (m.nk : Int)) && allB (fun i => classB 1 (kf i)) 0 m.nk) := by unfold fitK; simp only [h, if_true] <;> try rfl
      rw [e1, e2]; exact fits_callForm m p kk m.nk m.nk kf w (by omega) hk
    · have e1 : fitsK m.kind = 134 := by rw [h]; rfl
      have e2 : fitK m.toND kf = (usesB m.toND true false false false false true && ((m.nk : Int) % 2 == 0) && allB (fun i => classB 1 (kf i)) 0 m.nk && (m.op == 0 || m.op == 1 && decide (2 ≤ (m.nk : Int)) && classB 6 (kf (m.nk - 2)) && classB 5 (kf (m.nk - 1)))) := by unfold fitK; simp only [h, if_true] <;> try rfl
      rw [e1, e2]; exact fits_tableForm m p kk m.nk m.nk kf w (by omega) hk
    · have e1 : fitsK m.kind = 103 := by rw [h]; rfl
      have e2 : fitK m.toND kf = (usesB m.toND false false false false true false && ((m.nr : Int) == 1)) := by unfold fitK; simp only [h, if_true] <;> try rfl
      rw [e1, e2]; exact fits_fnForm m p kk m.nk m.nk w
    · have e1 : fitsK m.kind = 115 := by rw [h]; rfl
      have e2 : fitK m.toND kf = (usesB m.toND false false false false false false) := by unfold fitK; simp only [h, if_true] <;> try rfl
      rw [e1, e2]; exact fits_restForm m p kk m.nk m.nk w
    · have e1 : fitsK m.kind = 135 := by rw [h]; rfl
      have e2 : fitK m.toND kf = (usesB m.toND false false false false false true && kidsC [5] m.nk kf) := by unfold fitK; simp only [h, if_true] <;> try rfl
      rw [e1, e2]; exact fits_oneForm m p kk m.nk m.nk kf w (by omega) hk
    · rw [h2, h3 _ rfl]; exact fits_strangeForm m p kk m.nk m.nk w
  · rw [if_neg h, if_neg h]; exact fits_strangeForm m p kk _ _ w
end Go.Proofs.YtnokgdgikdgaeaaGreat
