import Derived.Test.YtjebijnndfkinaaGreatP06
namespace Go.Proofs.YtjebijnndfkinaaGreat
open Go.RowKit
attribute [local go_sem] run_store_float

set_option maxHeartbeats 1000000 in
theorem fits_jumpForm (m : NM) (p : Int) (kk : Option Addr) (kn kc : Nat) (w : World) :
    Calls Tryz.prog 114 #[.agg #[.int .i64 p, .int .i64 m.kind, .int .i64 m.line, .int .i64 m.op, .int .i64 m.num, .float .f64 m.flt, .string m.str, .slice m.ra m.nr m.rc, .slice m.ka m.nk m.kc, .slice kk kn kc]] w fun e w' => e = .returned (.bool (usesB m.toND false false false false false false)) ∧ Onw w w' := by
  go_enter Tryz.func114, Tryz.ntmps114
  go_wp2_with fail
  refine (usesOnly_any m p kk kn kc 0 _ false false false false false false (by simp)).mono ?_
  rintro e w1 ⟨rfl, hb1⟩
  have B := (Blk.new w 106 #[.int .i64 p, .int .i64 m.kind, .int .i64 m.line, .int .i64 m.op, .int .i64 m.num, .float .f64 m.flt, .string m.str, .slice m.ra m.nr m.rc, .slice m.ka m.nk m.kc, .slice kk kn kc]).onw hb1
  have bc := B.cell
  go_wp2_with fail
  go_ret
  exact ⟨rfl, (Onw.alloc _ _).trans hb1⟩

set_option maxHeartbeats 1000000 in
theorem fits_bareForm (m : NM) (p : Int) (kk : Option Addr) (kn kc : Nat) (w : World) :
    Calls Tryz.prog 124 #[.agg #[.int .i64 p, .int .i64 m.kind, .int .i64 m.line, .int .i64 m.op, .int .i64 m.num, .float .f64 m.flt, .string m.str, .slice m.ra m.nr m.rc, .slice m.ka m.nk m.kc, .slice kk kn kc]] w fun e w' => e = .returned (.bool (usesB m.toND false false false false false false)) ∧ Onw w w' := by
  go_enter Tryz.func124, Tryz.ntmps124
  go_wp2_with fail
  refine (usesOnly_any m p kk kn kc 0 _ false false false false false false (by simp)).mono ?_
  rintro e w1 ⟨rfl, hb1⟩
  have B := (Blk.new w 149 #[.int .i64 p, .int .i64 m.kind, .int .i64 m.line, .int .i64 m.op, .int .i64 m.num, .float .f64 m.flt, .string m.str, .slice m.ra m.nr m.rc, .slice m.ka m.nk m.kc, .slice kk kn kc]).onw hb1
  have bc := B.cell
  go_wp2_with fail
  go_ret
  exact ⟨rfl, (Onw.alloc _ _).trans hb1⟩

set_option maxHeartbeats 1000000 in
theorem fits_restForm (m : NM) (p : Int) (kk : Option Addr) (kn kc : Nat) (w : World) :
    Calls Tryz.prog 115 #[.agg #[.int .i64 p, .int .i64 m.kind, .int .i64 m.line, .int .i64 m.op, .int .i64 m.num, .float .f64 m.flt, .string m.str, .slice m.ra m.nr m.rc, .slice m.ka m.nk m.kc, .slice kk kn kc]] w fun e w' => e = .returned (.bool (usesB m.toND false false false false false false)) ∧ Onw w w' := by
  go_enter Tryz.func115, Tryz.ntmps115
  go_wp2_with fail
  refine (usesOnly_any m p kk kn kc 0 _ false false false false false false (by simp)).mono ?_
  rintro e w1 ⟨rfl, hb1⟩
  have B := (Blk.new w 108 #[.int .i64 p, .int .i64 m.kind, .int .i64 m.line, .int .i64 m.op, .int .i64 m.num, .float .f64 m.flt, .string m.str, .slice m.ra m.nr m.rc, .slice m.ka m.nk m.kc, .slice kk kn kc]).onw hb1
  have bc := B.cell
  go_wp2_with fail
  go_ret
  exact ⟨rfl, (Onw.alloc _ _).trans hb1⟩

set_option maxHeartbeats 1000000 in
theorem fits_intForm (m : NM) (p : Int) (kk : Option Addr) (kn kc : Nat) (w : World) :
    Calls Tryz.prog 125 #[.agg #[.int .i64 p, .int .i64 m.kind, .int .i64 m.line, .int .i64 m.op, .int .i64 m.num, .float .f64 m.flt, .string m.str, .slice m.ra m.nr m.rc, .slice m.ka m.nk m.kc, .slice kk kn kc]] w fun e w' => e = .returned (.bool (usesB m.toND false true false false false false)) ∧ Onw w w' := by
  go_enter Tryz.func125, Tryz.ntmps125
  go_wp2_with fail
  refine (usesOnly_any m p kk kn kc 2 _ false true false false false false (by simp)).mono ?_
  rintro e w1 ⟨rfl, hb1⟩
  have B := (Blk.new w 150 #[.int .i64 p, .int .i64 m.kind, .int .i64 m.line, .int .i64 m.op, .int .i64 m.num, .float .f64 m.flt, .string m.str, .slice m.ra m.nr m.rc, .slice m.ka m.nk m.kc, .slice kk kn kc]).onw hb1
  have bc := B.cell
  go_wp2_with fail
  go_ret
  exact ⟨rfl, (Onw.alloc _ _).trans hb1⟩

set_option maxHeartbeats 1000000 in
theorem fits_strForm (m : NM) (p : Int) (kk : Option Addr) (kn kc : Nat) (w : World) :
    Calls Tryz.prog 128 #[.agg #[.int .i64 p, .int .i64 m.kind, .int .i64 m.line, .int .i64 m.op, .int .i64 m.num, .float .f64 m.flt, .string m.str, .slice m.ra m.nr m.rc, .slice m.ka m.nk m.kc, .slice kk kn kc]] w fun e w' => e = .returned (.bool (usesB m.toND false false false true false false && (decide ((m.str.size : Int) ≤ 4000)))) ∧ Onw w w' := by
  go_enter Tryz.func128, Tryz.ntmps128
  go_wp2_with fail
  refine (usesOnly_any m p kk kn kc 8 _ false false false true false false (by simp)).mono ?_
  rintro e w1 ⟨rfl, hb1⟩
  have B := (Blk.new w 152 #[.int .i64 p, .int .i64 m.kind, .int .i64 m.line, .int .i64 m.op, .int .i64 m.num, .float .f64 m.flt, .string m.str, .slice m.ra m.nr m.rc, .slice m.ka m.nk m.kc, .slice kk kn kc]).onw hb1
  have bc := B.cell
  cases hx : usesB m.toND false false false true false false
  all_goals
    go_wp2_with fail
    all_goals go_ret
    all_goals exact ⟨ret_bool (by simp_all <;> omega), (Onw.alloc _ _).trans hb1⟩

set_option maxHeartbeats 1000000 in
theorem fits_varForm (m : NM) (p : Int) (kk : Option Addr) (kn kc : Nat) (w : World) :
    Calls Tryz.prog 112 #[.agg #[.int .i64 p, .int .i64 m.kind, .int .i64 m.line, .int .i64 m.op, .int .i64 m.num, .float .f64 m.flt, .string m.str, .slice m.ra m.nr m.rc, .slice m.ka m.nk m.kc, .slice kk kn kc]] w fun e w' => e = .returned (.bool (usesB m.toND false false false false true false && ((m.nr : Int) == 1))) ∧ Onw w w' := by
  go_enter Tryz.func112, Tryz.ntmps112
  go_wp2_with fail
  refine (usesOnly_any m p kk kn kc 16 _ false false false false true false (by simp)).mono ?_
  rintro e w1 ⟨rfl, hb1⟩
  have B := (Blk.new w 102 #[.int .i64 p, .int .i64 m.kind, .int .i64 m.line, .int .i64 m.op, .int .i64 m.num, .float .f64 m.flt, .string m.str, .slice m.ra m.nr m.rc, .slice m.ka m.nk m.kc, .slice kk kn kc]).onw hb1
  have bc := B.cell
  cases hx : usesB m.toND false false false false true false
  all_goals
    go_wp2_with fail
    all_goals go_ret
    all_goals exact ⟨ret_bool (by simp_all <;> omega), (Onw.alloc _ _).trans hb1⟩

set_option maxHeartbeats 1000000 in
theorem fits_upForm (m : NM) (p : Int) (kk : Option Addr) (kn kc : Nat) (w : World) :
    Calls Tryz.prog 113 #[.agg #[.int .i64 p, .int .i64 m.kind, .int .i64 m.line, .int .i64 m.op, .int .i64 m.num, .float .f64 m.flt, .string m.str, .slice m.ra m.nr m.rc, .slice m.ka m.nk m.kc, .slice kk kn kc]] w fun e w' => e = .returned (.bool (usesB m.toND false false false false true false && ((m.nr : Int) == 1))) ∧ Onw w w' := by
  go_enter Tryz.func113, Tryz.ntmps113
  go_wp2_with fail
  refine (usesOnly_any m p kk kn kc 16 _ false false false false true false (by simp)).mono ?_
  rintro e w1 ⟨rfl, hb1⟩
  have B := (Blk.new w 105 #[.int .i64 p, .int .i64 m.kind, .int .i64 m.line, .int .i64 m.op, .int .i64 m.num, .float .f64 m.flt, .string m.str, .slice m.ra m.nr m.rc, .slice m.ka m.nk m.kc, .slice kk kn kc]).onw hb1
  have bc := B.cell
  cases hx : usesB m.toND false false false false true false
  all_goals
    go_wp2_with fail
    all_goals go_ret
    all_goals exact ⟨ret_bool (by simp_all <;> omega), (Onw.alloc _ _).trans hb1⟩

set_option maxHeartbeats 1000000 in
theorem fits_fnForm (m : NM) (p : Int) (kk : Option Addr) (kn kc : Nat) (w : World) :
    Calls Tryz.prog 103 #[.agg #[.int .i64 p, .int .i64 m.kind, .int .i64 m.line, .int .i64 m.op, .int .i64 m.num, .float .f64 m.flt, .string m.str, .slice m.ra m.nr m.rc, .slice m.ka m.nk m.kc, .slice kk kn kc]] w fun e w' => e = .returned (.bool (usesB m.toND false false false false true false && ((m.nr : Int) == 1))) ∧ Onw w w' := by
  go_enter Tryz.func103, Tryz.ntmps103
  go_wp2_with fail
  refine (usesOnly_any m p kk kn kc 16 _ false false false false true false (by simp)).mono ?_
  rintro e w1 ⟨rfl, hb1⟩
  have B := (Blk.new w 92 #[.int .i64 p, .int .i64 m.kind, .int .i64 m.line, .int .i64 m.op, .int .i64 m.num, .float .f64 m.flt, .string m.str, .slice m.ra m.nr m.rc, .slice m.ka m.nk m.kc, .slice kk kn kc]).onw hb1
  have bc := B.cell
  cases hx : usesB m.toND false false false false true false
  all_goals
    go_wp2_with fail
    all_goals go_ret
    all_goals exact ⟨ret_bool (by simp_all <;> omega), (Onw.alloc _ _).trans hb1⟩

set_option maxHeartbeats 1000000 in
theorem fits_builtinForm (m : NM) (p : Int) (kk : Option Addr) (kn kc : Nat) (w : World) :
    Calls Tryz.prog 129 #[.agg #[.int .i64 p, .int .i64 m.kind, .int .i64 m.line, .int .i64 m.op, .int .i64 m.num, .float .f64 m.flt, .string m.str, .slice m.ra m.nr m.rc, .slice m.ka m.nk m.kc, .slice kk kn kc]] w fun e w' => e = .returned (.bool (usesB m.toND false true false false false false && (decide (0 ≤ m.num) && decide (m.num < 15)))) ∧ Onw w w' := by
  go_enter Tryz.func129, Tryz.ntmps129
  go_wp2_with fail
  refine (usesOnly_any m p kk kn kc 2 _ false true false false false false (by simp)).mono ?_
  rintro e w1 ⟨rfl, hb1⟩
  have B := (Blk.new w 153 #[.int .i64 p, .int .i64 m.kind, .int .i64 m.line, .int .i64 m.op, .int .i64 m.num, .float .f64 m.flt, .string m.str, .slice m.ra m.nr m.rc, .slice m.ka m.nk m.kc, .slice kk kn kc]).onw hb1
  have bc := B.cell
  cases hx : usesB m.toND false true false false false false
  all_goals
    go_wp2_with fail
    all_goals go_ret
    all_goals exact ⟨ret_bool (by simp_all <;> omega), (Onw.alloc _ _).trans hb1⟩

set_option maxHeartbeats 1000000 in
theorem fits_blockForm (m : NM) (p : Int) (kk : Option Addr) (kn kc : Nat) (kf : Nat → Int) (w : World) (hn : kn ≤ 1048576) (hk : IntsAt w kk kn kf) :
    Calls Tryz.prog 117 #[.agg #[.int .i64 p, .int .i64 m.kind, .int .i64 m.line, .int .i64 m.op, .int .i64 m.num, .float .f64 m.flt, .string m.str, .slice m.ra m.nr m.rc, .slice m.ka m.nk m.kc, .slice kk kn kc]] w fun e w' => e = .returned (.bool (usesB m.toND false false false false false true && allB (fun i => classB 0 (kf i)) 0 kn)) ∧ Onw w w' := by
  go_enter Tryz.func117, Tryz.ntmps117
  go_wp2_with fail
  refine (usesOnly_any m p kk kn kc 32 _ false false false false false true (by simp)).mono ?_
  rintro e w1 ⟨rfl, hb1⟩
  have B := (Blk.new w 125 #[.int .i64 p, .int .i64 m.kind, .int .i64 m.line, .int .i64 m.op, .int .i64 m.num, .float .f64 m.flt, .string m.str, .slice m.ra m.nr m.rc, .slice m.ka m.nk m.kc, .slice kk kn kc]).onw hb1
  have bc := B.cell
  cases hx : usesB m.toND false false false false false true
  · go_wp2_with fail
    go_ret
    exact ⟨ret_bool (by first | rfl | (rw [hx]; rfl)), (Onw.alloc _ _).trans hb1⟩
  · go_wp2_with fail
    refine (hasAll_any _ _ _ _ kf _ (by omega) (by omega) hn (by exact hk.onw ((Onw.alloc _ _).trans hb1))).mono ?_
    rintro e w2 ⟨rfl, rfl⟩
    go_wp2_with fail
    go_ret
    exact ⟨ret_bool (by first | rfl | (rw [hx]; rfl)), (Onw.alloc _ _).trans hb1⟩

set_option maxHeartbeats 1000000 in
theorem fits_returnForm (m : NM) (p : Int) (kk : Option Addr) (kn kc : Nat) (kf : Nat → Int) (w : World) (hn : kn ≤ 1048576) (hk : IntsAt w kk kn kf) :
    Calls Tryz.prog 122 #[.agg #[.int .i64 p, .int .i64 m.kind, .int .i64 m.line, .int .i64 m.op, .int .i64 m.num, .float .f64 m.flt, .string m.str, .slice m.ra m.nr m.rc, .slice m.ka m.nk m.kc, .slice kk kn kc]] w fun e w' => e = .returned (.bool (usesB m.toND false false false false false true && allB (fun i => classB 1 (kf i)) 0 kn)) ∧ Onw w w' := by
  go_enter Tryz.func122, Tryz.ntmps122
  go_wp2_with fail
  refine (usesOnly_any m p kk kn kc 32 _ false false false false false true (by simp)).mono ?_
  rintro e w1 ⟨rfl, hb1⟩
  have B := (Blk.new w 147 #[.int .i64 p, .int .i64 m.kind, .int .i64 m.line, .int .i64 m.op, .int .i64 m.num, .float .f64 m.flt, .string m.str, .slice m.ra m.nr m.rc, .slice m.ka m.nk m.kc, .slice kk kn kc]).onw hb1
  have bc := B.cell
  cases hx : usesB m.toND false false false false false true
  · go_wp2_with fail
    go_ret
    exact ⟨ret_bool (by first | rfl | (rw [hx]; rfl)), (Onw.alloc _ _).trans hb1⟩
  · go_wp2_with fail
    refine (hasAll_any _ _ _ _ kf _ (by omega) (by omega) hn (by exact hk.onw ((Onw.alloc _ _).trans hb1))).mono ?_
    rintro e w2 ⟨rfl, rfl⟩
    go_wp2_with fail
    go_ret
    exact ⟨ret_bool (by first | rfl | (rw [hx]; rfl)), (Onw.alloc _ _).trans hb1⟩

set_option maxHeartbeats 1000000 in
theorem fits_letForm (m : NM) (p : Int) (kk : Option Addr) (kn kc : Nat) (kf : Nat → Int) (w : World) (hn : kn ≤ 1048576) (hk : IntsAt w kk kn kf) :
    Calls Tryz.prog 105 #[.agg #[.int .i64 p, .int .i64 m.kind, .int .i64 m.line, .int .i64 m.op, .int .i64 m.num, .float .f64 m.flt, .string m.str, .slice m.ra m.nr m.rc, .slice m.ka m.nk m.kc, .slice kk kn kc]] w fun e w' => e = .returned (.bool (usesB m.toND false false false false true true && decide (1 ≤ (m.nr : Int)) && allB (fun i => classB 1 (kf i)) 0 kn)) ∧ Onw w w' := by
  go_enter Tryz.func105, Tryz.ntmps105
  go_wp2_with fail
  refine (usesOnly_any m p kk kn kc 48 _ false false false false true true (by simp)).mono ?_
  rintro e w1 ⟨rfl, hb1⟩
  have B := (Blk.new w 97 #[.int .i64 p, .int .i64 m.kind, .int .i64 m.line, .int .i64 m.op, .int .i64 m.num, .float .f64 m.flt, .string m.str, .slice m.ra m.nr m.rc, .slice m.ka m.nk m.kc, .slice kk kn kc]).onw hb1
  have bc := B.cell
  cases hx : usesB m.toND false false false false true true
  · go_wp2_with fail
    go_ret
    exact ⟨ret_bool (by first | rfl | (rw [hx]; rfl)), (Onw.alloc _ _).trans hb1⟩
  · by_cases hy : 1 ≤ (m.nr : Int)
    · have dy : Hid (decide (1 ≤ (m.nr : Int)) = true) := decide_eq_true hy
      go_wp2_with fail
      refine (hasAll_any _ _ _ _ kf _ (by omega) (by omega) hn (by exact hk.onw ((Onw.alloc _ _).trans hb1))).mono ?_
      rintro e w2 ⟨rfl, rfl⟩
      go_wp2_with fail
      go_ret
      exact ⟨ret_bool (by first | rfl | (rw [dy.out]; rfl) | (rw [hx, dy.out]; rfl)), (Onw.alloc _ _).trans hb1⟩
    · have dy : Hid (decide (1 ≤ (m.nr : Int)) = false) := decide_eq_false hy
      go_wp2_with fail
      go_ret
      exact ⟨ret_bool (by first | rfl | (rw [dy.out]; rfl) | (rw [hx, dy.out]; rfl)), (Onw.alloc _ _).trans hb1⟩

set_option maxHeartbeats 1000000 in
theorem fits_callForm (m : NM) (p : Int) (kk : Option Addr) (kn kc : Nat) (kf : Nat → Int) (w : World) (hn : kn ≤ 1048576) (hk : IntsAt w kk kn kf) :
    Calls Tryz.prog 133 #[.agg #[.int .i64 p, .int .i64 m.kind, .int .i64 m.line, .int .i64 m.op, .int .i64 m.num, .float .f64 m.flt, .string m.str, .slice m.ra m.nr m.rc, .slice m.ka m.nk m.kc, .slice kk kn kc]] w fun e w' => e = .returned (.bool (usesB m.toND false false false false false true && decide (1 ≤ (kn : Int)) && allB (fun i => classB 1 (kf i)) 0 kn)) ∧ Onw w w' := by
  go_enter Tryz.func133, Tryz.ntmps133
  go_wp2_with fail
  refine (usesOnly_any m p kk kn kc 32 _ false false false false false true (by simp)).mono ?_
  rintro e w1 ⟨rfl, hb1⟩
  have B := (Blk.new w 157 #[.int .i64 p, .int .i64 m.kind, .int .i64 m.line, .int .i64 m.op, .int .i64 m.num, .float .f64 m.flt, .string m.str, .slice m.ra m.nr m.rc, .slice m.ka m.nk m.kc, .slice kk kn kc]).onw hb1
  have bc := B.cell
  cases hx : usesB m.toND false false false false false true
  · go_wp2_with fail
    go_ret
    exact ⟨ret_bool (by first | rfl | (rw [hx]; rfl)), (Onw.alloc _ _).trans hb1⟩
  · by_cases hy : 1 ≤ (kn : Int)
    · have dy : Hid (decide (1 ≤ (kn : Int)) = true) := decide_eq_true hy
      go_wp2_with fail
      refine (hasAll_any _ _ _ _ kf _ (by omega) (by omega) hn (by exact hk.onw ((Onw.alloc _ _).trans hb1))).mono ?_
      rintro e w2 ⟨rfl, rfl⟩
      go_wp2_with fail
      go_ret
      exact ⟨ret_bool (by first | rfl | (rw [dy.out]; rfl) | (rw [hx, dy.out]; rfl)), (Onw.alloc _ _).trans hb1⟩
    · have dy : Hid (decide (1 ≤ (kn : Int)) = false) := decide_eq_false hy
      go_wp2_with fail
      go_ret
      exact ⟨ret_bool (by first | rfl | (rw [dy.out]; rfl) | (rw [hx, dy.out]; rfl)), (Onw.alloc _ _).trans hb1⟩
end Go.Proofs.YtjebijnndfkinaaGreat
