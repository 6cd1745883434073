import Derived.Test.YtlibofjbhhdjdaaGreatQ
import Derived.Test.YtlibofjbhhdjdaaGreatP31
set_option linter.unusedSimpArgs false
set_option maxRecDepth 100000
set_option maxHeartbeats 16000000
namespace Go.Proofs.YtlibofjbhhdjdaaGreat
open Go.RowKit
attribute [local go_sem] rsf run_fl_add run_fl_sub run_fl_mul run_fl_quo run_cv
theorem l1ints_any (op a b : Int)(w : World): Calls Tryz.prog 124 #[.int .i64 op, .int .i64 a, .int .i64 b] w fun e w' => (∃ v, e = .returned v /\ IsVd v) /\ Onw w w' := by
  go_enter Tryz.func124, Tryz.ntmps124
  go_wp2_with fail
  all_goals first
    | (refine (l1fail_any _ _).mono ?_
       rintro e w9 ⟨⟨_, rfl, c9, k9, n9, f9, s9, r9, rfl, v9⟩, o9⟩
       have V9 : Hid _ := v9
       clear v9
       have OW : Hid (Onw (w.alloc (Obj.cells #[.int .i64 0, .int .i64 0, .int .i64 0, .float .f64 0, .string { data := #[] }, .int .i64 0] 207)) w9) := o9
       have NB := (Blk.new w 207 #[.int .i64 0, .int .i64 0, .int .i64 0, .float .f64 0, .string { data := #[] }, .int .i64 0]).onw OW.out
       have OO : Hid (Onw w w9) := Onw.trans (Onw.alloc _ _) OW.out
       have y0 := NB.cell 0
       have y1 := NB.cell 1
       have y2 := NB.cell 2
       have y3 := NB.cell 3
       have y4 := NB.cell 4
       have y5 := NB.cell 5
       have bf := NB.free
       have zb := NB.lt
       simp at y0 y1 y2 y3 y4 y5
       clear NB
       go_wp2_with fail
       exact bodyPost_ret (v := .agg #[.int .i64 c9, .int .i64 k9, .int .i64 n9, .float .f64 f9, .string s9, .int .i64 r9]) J277 rfl ⟨⟨_, rfl, _, _, _, _, _, _, rfl, V9.out⟩, bset (bset (bset (bset (bset (bset OO.out (Nat.le_refl _) _) (Nat.le_refl _) _) (Nat.le_refl _) _) (Nat.le_refl _) _) (Nat.le_refl _) _) (Nat.le_refl _) _⟩)
    | (refine (l1int_any _ (by first | exact range_wrap _ | exact range_bits _ _ _ | exact range_small (by omega) (by omega) | exact HQ.out) _).mono ?_
       rintro e w1 ⟨⟨_, rfl, k1, n1, f1, s1, r1, rfl, v1⟩, o1⟩
       have V1 : Hid _ := v1
       clear v1
       go_wp2_with fail
       refine (l1got_any k1 n1 f1 s1 r1 V1.out _).mono ?_
       rintro e w9 ⟨⟨_, rfl, c9, k9, n9, f9, s9, r9, rfl, v9⟩, o9⟩
       have V9 : Hid _ := v9
       clear v9
       have OW : Hid (Onw (w.alloc (Obj.cells #[.int .i64 0, .int .i64 0, .int .i64 0, .float .f64 0, .string { data := #[] }, .int .i64 0] 207)) w9) := J278
       have NB := (Blk.new w 207 #[.int .i64 0, .int .i64 0, .int .i64 0, .float .f64 0, .string { data := #[] }, .int .i64 0]).onw OW.out
       have OO : Hid (Onw w w9) := Onw.trans (Onw.alloc _ _) OW.out
       have y0 := NB.cell 0
       have y1 := NB.cell 1
       have y2 := NB.cell 2
       have y3 := NB.cell 3
       have y4 := NB.cell 4
       have y5 := NB.cell 5
       have bf := NB.free
       have zb := NB.lt
       simp at y0 y1 y2 y3 y4 y5
       clear NB
       go_wp2_with fail
       exact bodyPost_ret (v := .agg #[.int .i64 c9, .int .i64 k9, .int .i64 n9, .float .f64 f9, .string s9, .int .i64 r9]) J277 rfl ⟨⟨_, rfl, _, _, _, _, _, _, rfl, V9.out⟩, bset (bset (bset (bset (bset (bset OO.out (Nat.le_refl _) _) (Nat.le_refl _) _) (Nat.le_refl _) _) (Nat.le_refl _) _) (Nat.le_refl _) _) (Nat.le_refl _) _⟩)
    | (refine (l1flt_any _ _).mono ?_
       rintro e w1 ⟨⟨_, rfl, k1, n1, f1, s1, r1, rfl, v1⟩, o1⟩
       have V1 : Hid _ := v1
       clear v1
       go_wp2_with fail
       refine (l1got_any k1 n1 f1 s1 r1 V1.out _).mono ?_
       rintro e w9 ⟨⟨_, rfl, c9, k9, n9, f9, s9, r9, rfl, v9⟩, o9⟩
       have V9 : Hid _ := v9
       clear v9
       have OW : Hid (Onw (w.alloc (Obj.cells #[.int .i64 0, .int .i64 0, .int .i64 0, .float .f64 0, .string { data := #[] }, .int .i64 0] 207)) w9) := J278
       have NB := (Blk.new w 207 #[.int .i64 0, .int .i64 0, .int .i64 0, .float .f64 0, .string { data := #[] }, .int .i64 0]).onw OW.out
       have OO : Hid (Onw w w9) := Onw.trans (Onw.alloc _ _) OW.out
       have y0 := NB.cell 0
       have y1 := NB.cell 1
       have y2 := NB.cell 2
       have y3 := NB.cell 3
       have y4 := NB.cell 4
       have y5 := NB.cell 5
       have bf := NB.free
       have zb := NB.lt
       simp at y0 y1 y2 y3 y4 y5
       clear NB
       go_wp2_with fail
       exact bodyPost_ret (v := .agg #[.int .i64 c9, .int .i64 k9, .int .i64 n9, .float .f64 f9, .string s9, .int .i64 r9]) J277 rfl ⟨⟨_, rfl, _, _, _, _, _, _, rfl, V9.out⟩, bset (bset (bset (bset (bset (bset OO.out (Nat.le_refl _) _) (Nat.le_refl _) _) (Nat.le_refl _) _) (Nat.le_refl _) _) (Nat.le_refl _) _) (Nat.le_refl _) _⟩)
    | (refine (l1quot_any _ _ _ (fun hb0 => by subst hb0; simp_all)).mono ?_
       rintro e w0 ⟨⟨q, rfl, hq⟩, o0⟩
       have HQ : Hid _ := hq
       clear hq
       have O0 : Hid _ := o0
       clear o0
       go_wp2_with fail
       all_goals
         refine (l1int_any _ (by first | exact range_wrap _ | exact range_bits _ _ _ | exact range_small (by omega) (by omega) | exact HQ.out) _).mono ?_
         rintro e w1 ⟨⟨_, rfl, k1, n1, f1, s1, r1, rfl, v1⟩, o1⟩
         have V1 : Hid _ := v1
         clear v1
         go_wp2_with fail
         refine (l1got_any k1 n1 f1 s1 r1 V1.out _).mono ?_
         rintro e w9 ⟨⟨_, rfl, c9, k9, n9, f9, s9, r9, rfl, v9⟩, o9⟩
         have V9 : Hid _ := v9
         clear v9
         have OW : Hid (Onw (w.alloc (Obj.cells #[.int .i64 0, .int .i64 0, .int .i64 0, .float .f64 0, .string { data := #[] }, .int .i64 0] 207)) w9) := by exact Onw.trans (Onw.trans O0.out o1) o9
         have NB := (Blk.new w 207 #[.int .i64 0, .int .i64 0, .int .i64 0, .float .f64 0, .string { data := #[] }, .int .i64 0]).onw OW.out
         have OO : Hid (Onw w w9) := Onw.trans (Onw.alloc _ _) OW.out
         have y0 := NB.cell 0
         have y1 := NB.cell 1
         have y2 := NB.cell 2
         have y3 := NB.cell 3
         have y4 := NB.cell 4
         have y5 := NB.cell 5
         have bf := NB.free
         have zb := NB.lt
         simp at y0 y1 y2 y3 y4 y5
         clear NB
         go_wp2_with fail
         exact bodyPost_ret (v := .agg #[.int .i64 c9, .int .i64 k9, .int .i64 n9, .float .f64 f9, .string s9, .int .i64 r9]) J277 rfl ⟨⟨_, rfl, _, _, _, _, _, _, rfl, V9.out⟩, bset (bset (bset (bset (bset (bset OO.out (Nat.le_refl _) _) (Nat.le_refl _) _) (Nat.le_refl _) _) (Nat.le_refl _) _) (Nat.le_refl _) _) (Nat.le_refl _) _⟩)
theorem l1floats_any (op : Int)(a b : Nat)(w : World): Calls Tryz.prog 126 #[.int .i64 op, .float .f64 a, .float .f64 b] w fun e w' => (∃ v, e = .returned v /\ IsVd v) /\ Onw w w' := by
  go_enter Tryz.func126, Tryz.ntmps126
  go_wp2_with fail
  all_goals first
    | (refine (l1fail_any _ _).mono ?_
       rintro e w9 ⟨⟨_, rfl, c9, k9, n9, f9, s9, r9, rfl, v9⟩, o9⟩
       have V9 : Hid _ := v9
       clear v9
       have OW : Hid (Onw (w.alloc (Obj.cells #[.int .i64 0, .int .i64 0, .int .i64 0, .float .f64 0, .string { data := #[] }, .int .i64 0] 207)) w9) := o9
       have NB := (Blk.new w 207 #[.int .i64 0, .int .i64 0, .int .i64 0, .float .f64 0, .string { data := #[] }, .int .i64 0]).onw OW.out
       have OO : Hid (Onw w w9) := Onw.trans (Onw.alloc _ _) OW.out
       have y0 := NB.cell 0
       have y1 := NB.cell 1
       have y2 := NB.cell 2
       have y3 := NB.cell 3
       have y4 := NB.cell 4
       have y5 := NB.cell 5
       have bf := NB.free
       have zb := NB.lt
       simp at y0 y1 y2 y3 y4 y5
       clear NB
       go_wp2_with fail
       exact bodyPost_ret (v := .agg #[.int .i64 c9, .int .i64 k9, .int .i64 n9, .float .f64 f9, .string s9, .int .i64 r9]) J290 rfl ⟨⟨_, rfl, _, _, _, _, _, _, rfl, V9.out⟩, bset (bset (bset (bset (bset (bset OO.out (Nat.le_refl _) _) (Nat.le_refl _) _) (Nat.le_refl _) _) (Nat.le_refl _) _) (Nat.le_refl _) _) (Nat.le_refl _) _⟩)
    | (refine (l1flt_any _ _).mono ?_
       rintro e w1 ⟨⟨_, rfl, k1, n1, f1, s1, r1, rfl, v1⟩, o1⟩
       have V1 : Hid _ := v1
       clear v1
       go_wp2_with fail
       refine (l1got_any k1 n1 f1 s1 r1 V1.out _).mono ?_
       rintro e w9 ⟨⟨_, rfl, c9, k9, n9, f9, s9, r9, rfl, v9⟩, o9⟩
       have V9 : Hid _ := v9
       clear v9
       have OW : Hid (Onw (w.alloc (Obj.cells #[.int .i64 0, .int .i64 0, .int .i64 0, .float .f64 0, .string { data := #[] }, .int .i64 0] 207)) w9) := J278
       have NB := (Blk.new w 207 #[.int .i64 0, .int .i64 0, .int .i64 0, .float .f64 0, .string { data := #[] }, .int .i64 0]).onw OW.out
       have OO : Hid (Onw w w9) := Onw.trans (Onw.alloc _ _) OW.out
       have y0 := NB.cell 0
       have y1 := NB.cell 1
       have y2 := NB.cell 2
       have y3 := NB.cell 3
       have y4 := NB.cell 4
       have y5 := NB.cell 5
       have bf := NB.free
       have zb := NB.lt
       simp at y0 y1 y2 y3 y4 y5
       clear NB
       go_wp2_with fail
       exact bodyPost_ret (v := .agg #[.int .i64 c9, .int .i64 k9, .int .i64 n9, .float .f64 f9, .string s9, .int .i64 r9]) J290 rfl ⟨⟨_, rfl, _, _, _, _, _, _, rfl, V9.out⟩, bset (bset (bset (bset (bset (bset OO.out (Nat.le_refl _) _) (Nat.le_refl _) _) (Nat.le_refl _) _) (Nat.le_refl _) _) (Nat.le_refl _) _) (Nat.le_refl _) _⟩)
    | (refine (l1floor_any _ _).mono ?_
       rintro e w0 ⟨⟨g, rfl, hx⟩, o0⟩
       have O0 : Hid _ := o0
       clear o0 hx
       go_wp2_with fail
       refine (l1flt_any _ _).mono ?_
       rintro e w1 ⟨⟨_, rfl, k1, n1, f1, s1, r1, rfl, v1⟩, o1⟩
       have V1 : Hid _ := v1
       clear v1
       go_wp2_with fail
       refine (l1got_any k1 n1 f1 s1 r1 V1.out _).mono ?_
       rintro e w9 ⟨⟨_, rfl, c9, k9, n9, f9, s9, r9, rfl, v9⟩, o9⟩
       have V9 : Hid _ := v9
       clear v9
       have OW : Hid (Onw (w.alloc (Obj.cells #[.int .i64 0, .int .i64 0, .int .i64 0, .float .f64 0, .string { data := #[] }, .int .i64 0] 207)) w9) := by first | exact Onw.trans (Onw.trans (Onw.trans (flD_onw _ _ _ _) O0.out) o1) o9 | exact Onw.trans (Onw.trans (Onw.trans (Onw.trans (Onw.trans (flD_onw _ _ _ _) O0.out) (flD_onw _ _ _ _)) (flD_onw _ _ _ _)) o1) o9
       have NB := (Blk.new w 207 #[.int .i64 0, .int .i64 0, .int .i64 0, .float .f64 0, .string { data := #[] }, .int .i64 0]).onw OW.out
       have OO : Hid (Onw w w9) := Onw.trans (Onw.alloc _ _) OW.out
       have y0 := NB.cell 0
       have y1 := NB.cell 1
       have y2 := NB.cell 2
       have y3 := NB.cell 3
       have y4 := NB.cell 4
       have y5 := NB.cell 5
       have bf := NB.free
       have zb := NB.lt
       simp at y0 y1 y2 y3 y4 y5
       clear NB
       go_wp2_with fail
       exact bodyPost_ret (v := .agg #[.int .i64 c9, .int .i64 k9, .int .i64 n9, .float .f64 f9, .string s9, .int .i64 r9]) J290 rfl ⟨⟨_, rfl, _, _, _, _, _, _, rfl, V9.out⟩, bset (bset (bset (bset (bset (bset OO.out (Nat.le_refl _) _) (Nat.le_refl _) _) (Nat.le_refl _) _) (Nat.le_refl _) _) (Nat.le_refl _) _) (Nat.le_refl _) _⟩)
end Go.Proofs.YtlibofjbhhdjdaaGreat
