import Derived.Test.YtnokgdgikdgaeaaP04
namespace Go.Proofs.Ytnokgdgikdgaeaa
open Go.RowKit
attribute [local go_sem] run_store_float

variable (m : PM) (p : Int) (kk : Option Addr) (kn kc : Nat) (q : Nat → Option PX) (w : World)
set_option maxRecDepth 100000 in
set_option maxHeartbeats 4000000 in
theorem ef_flt (H : FitsAt m kk kn kc q w) :
    Calls Try.prog 28 #[.iface 103 (.agg #[.int .i64 p, .int .i64 m.kind, .int .i64 m.frm, .int .i64 m.tto, .int .i64 m.line, .int .i64 m.op, .int .i64 m.num, .float .f64 m.flt, .string m.text, .slice m.na m.nn m.nc, .slice m.ka m.nk m.kc, .slice kk kn kc])] w fun e w' => e = .returned (.bool (usesP m.toPD false false true false false && (fnum m.flt && (kidsR [] kn q)))) ∧ Onw w w' := by
  obtain ⟨hn, hk, hkc, hnn, hz, htx, hm⟩ := H
  have ⟨O, B⟩ := st1 w 103 #[.int .i64 p, .int .i64 m.kind, .int .i64 m.frm, .int .i64 m.tto, .int .i64 m.line, .int .i64 m.op, .int .i64 m.num, .float .f64 m.flt, .string m.text, .slice m.na m.nn m.nc, .slice m.ka m.nk m.kc, .slice kk kn kc]
  have bc := B.cell
  have a_bare := as_bare_no (t := 103) (by decide)
  have a_rest := as_rest_no (t := 103) (by decide)
  have a_int := as_int_no (t := 103) (by decide)
  have a_flt := as_flt_yes
  go_enter Try.func28, Try.ntmps28
  go_wp2_with fail
  refine (usesOnly_any m p kk kn kc 4 _ false false true false false (by simp)).mono ?_
  rintro e w1 ⟨rfl, hb⟩
  replace B := B.onw hb
  replace O := O.trans hb
  clear hb bc
  have bc := B.cell
  cases h0 : usesP m.toPD false false true false false
  · go_wp2_with fail
    go_ret
    exact ⟨ret_bool (by first | rfl | (rw [h0]; rfl) | (rw [h0, h1]; rfl) | (rw [h0, h1, h2]; rfl) | (rw [h0, h1, h2, h3]; rfl) | (rw [h0, h9]; rfl) | (simp [*]; done) | (simp_all; done)), O⟩
  · go_wp2_with fail
    refine (isNaN_any _ _).mono ?_
    rintro e v1 ⟨rfl, rfl⟩
    cases h1 : fnum m.flt
    · go_wp2_with fail
      go_ret
      exact ⟨ret_bool (by first | rfl | (rw [h0]; rfl) | (rw [h0, h1]; rfl) | (rw [h0, h1, h2]; rfl) | (rw [h0, h1, h2, h3]; rfl) | (rw [h0, h9]; rfl) | (simp [*]; done) | (simp_all; done)), O⟩
    · go_wp2_with fail
      refine (kidsAre_any m p kk kn kc q none 0 0 (classF []) _ hn (hk.onw O) (fun h => absurd h (Nat.not_lt_zero _))).mono ?_
      rintro e w3 ⟨rfl, hb⟩
      replace B := B.onw hb
      replace O := O.trans hb
      clear hb bc
      have bc := B.cell
      go_wp2_with fail
      go_ret
      exact ⟨ret_bool (by first | rfl | (rw [h0]; rfl) | (rw [h0, h1]; rfl) | (rw [h0, h1, h2]; rfl) | (rw [h0, h1, h2, h3]; rfl) | (rw [h0, h9]; rfl) | (simp [*]; done) | (simp_all; done)), O⟩

set_option maxRecDepth 100000 in
set_option maxHeartbeats 4000000 in
theorem ef_str (H : FitsAt m kk kn kc q w) :
    Calls Try.prog 28 #[.iface 105 (.agg #[.int .i64 p, .int .i64 m.kind, .int .i64 m.frm, .int .i64 m.tto, .int .i64 m.line, .int .i64 m.op, .int .i64 m.num, .float .f64 m.flt, .string m.text, .slice m.na m.nn m.nc, .slice m.ka m.nk m.kc, .slice kk kn kc])] w fun e w' => e = .returned (.bool (usesP m.toPD false false false true false && (decide ((m.text.size : Int) ≤ 4000) && (kidsR [] kn q)))) ∧ Onw w w' := by
  obtain ⟨hn, hk, hkc, hnn, hz, htx, hm⟩ := H
  have ⟨O, B⟩ := st1 w 105 #[.int .i64 p, .int .i64 m.kind, .int .i64 m.frm, .int .i64 m.tto, .int .i64 m.line, .int .i64 m.op, .int .i64 m.num, .float .f64 m.flt, .string m.text, .slice m.na m.nn m.nc, .slice m.ka m.nk m.kc, .slice kk kn kc]
  have bc := B.cell
  have a_bare := as_bare_no (t := 105) (by decide)
  have a_rest := as_rest_no (t := 105) (by decide)
  have a_int := as_int_no (t := 105) (by decide)
  have a_flt := as_flt_no (t := 105) (by decide)
  have a_str := as_str_yes
  go_enter Try.func28, Try.ntmps28
  go_wp2_with fail
  refine (usesOnly_any m p kk kn kc 8 _ false false false true false (by simp)).mono ?_
  rintro e w1 ⟨rfl, hb⟩
  replace B := B.onw hb
  replace O := O.trans hb
  clear hb bc
  have bc := B.cell
  cases h0 : usesP m.toPD false false false true false
  · go_wp2_with fail
    go_ret
    exact ⟨ret_bool (by first | rfl | (rw [h0]; rfl) | (rw [h0, h1]; rfl) | (rw [h0, h1, h2]; rfl) | (rw [h0, h1, h2, h3]; rfl) | (rw [h0, h9]; rfl) | (simp [*]; done) | (simp_all; done)), O⟩
  · by_cases c1 : (m.text.size : Int) ≤ 4000
    · have h1 : decide ((m.text.size : Int) ≤ 4000) = true := decide_eq_true c1
      go_wp2_with fail
      refine (kidsAre_any m p kk kn kc q none 0 0 (classF []) _ hn (hk.onw O) (fun h => absurd h (Nat.not_lt_zero _))).mono ?_
      rintro e w2 ⟨rfl, hb⟩
      replace B := B.onw hb
      replace O := O.trans hb
      clear hb bc
      have bc := B.cell
      go_wp2_with fail
      go_ret
      exact ⟨ret_bool (by first | rfl | (rw [h0]; rfl) | (rw [h0, h1]; rfl) | (rw [h0, h1, h2]; rfl) | (rw [h0, h1, h2, h3]; rfl) | (rw [h0, h9]; rfl) | (simp [*]; done) | (simp_all; done)), O⟩
    · have h1 : decide ((m.text.size : Int) ≤ 4000) = false := decide_eq_false c1
      go_wp2_with fail
      go_ret
      exact ⟨ret_bool (by first | rfl | (rw [h0]; rfl) | (rw [h0, h1]; rfl) | (rw [h0, h1, h2]; rfl) | (rw [h0, h1, h2, h3]; rfl) | (rw [h0, h9]; rfl) | (simp [*]; done) | (simp_all; done)), O⟩

set_option maxRecDepth 100000 in
set_option maxHeartbeats 4000000 in
theorem ef_name (H : FitsAt m kk kn kc q w) :
    Calls Try.prog 28 #[.iface 106 (.agg #[.int .i64 p, .int .i64 m.kind, .int .i64 m.frm, .int .i64 m.tto, .int .i64 m.line, .int .i64 m.op, .int .i64 m.num, .float .f64 m.flt, .string m.text, .slice m.na m.nn m.nc, .slice m.ka m.nk m.kc, .slice kk kn kc])] w fun e w' => e = .returned (.bool (usesP m.toPD false false false true false && (nameB m.text && (kidsR [] kn q)))) ∧ Onw w w' := by
  obtain ⟨hn, hk, hkc, hnn, hz, htx, hm⟩ := H
  have ⟨O, B⟩ := st1 w 106 #[.int .i64 p, .int .i64 m.kind, .int .i64 m.frm, .int .i64 m.tto, .int .i64 m.line, .int .i64 m.op, .int .i64 m.num, .float .f64 m.flt, .string m.text, .slice m.na m.nn m.nc, .slice m.ka m.nk m.kc, .slice kk kn kc]
  have bc := B.cell
  have a_bare := as_bare_no (t := 106) (by decide)
  have a_rest := as_rest_no (t := 106) (by decide)
  have a_int := as_int_no (t := 106) (by decide)
  have a_flt := as_flt_no (t := 106) (by decide)
  have a_str := as_str_no (t := 106) (by decide)
  have a_name := as_name_yes
  go_enter Try.func28, Try.ntmps28
  go_wp2_with fail
  refine (usesOnly_any m p kk kn kc 8 _ false false false true false (by simp)).mono ?_
  rintro e w1 ⟨rfl, hb⟩
  replace B := B.onw hb
  replace O := O.trans hb
  clear hb bc
  have bc := B.cell
  cases h0 : usesP m.toPD false false false true false
  · go_wp2_with fail
    go_ret
    exact ⟨ret_bool (by first | rfl | (rw [h0]; rfl) | (rw [h0, h1]; rfl) | (rw [h0, h1, h2]; rfl) | (rw [h0, h1, h2, h3]; rfl) | (rw [h0, h9]; rfl) | (simp [*]; done) | (simp_all; done)), O⟩
  · go_wp2_with fail
    refine (isName_any _ _ htx).mono ?_
    rintro e v1 ⟨rfl, rfl⟩
    cases h1 : nameB m.text
    · go_wp2_with fail
      go_ret
      exact ⟨ret_bool (by first | rfl | (rw [h0]; rfl) | (rw [h0, h1]; rfl) | (rw [h0, h1, h2]; rfl) | (rw [h0, h1, h2, h3]; rfl) | (rw [h0, h9]; rfl) | (simp [*]; done) | (simp_all; done)), O⟩
    · go_wp2_with fail
      refine (kidsAre_any m p kk kn kc q none 0 0 (classF []) _ hn (hk.onw O) (fun h => absurd h (Nat.not_lt_zero _))).mono ?_
      rintro e w3 ⟨rfl, hb⟩
      replace B := B.onw hb
      replace O := O.trans hb
      clear hb bc
      have bc := B.cell
      go_wp2_with fail
      go_ret
      exact ⟨ret_bool (by first | rfl | (rw [h0]; rfl) | (rw [h0, h1]; rfl) | (rw [h0, h1, h2]; rfl) | (rw [h0, h1, h2, h3]; rfl) | (rw [h0, h9]; rfl) | (simp [*]; done) | (simp_all; done)), O⟩

set_option maxRecDepth 100000 in
set_option maxHeartbeats 4000000 in
theorem ef_field (H : FitsAt m kk kn kc q w) :
    Calls Try.prog 28 #[.iface 111 (.agg #[.int .i64 p, .int .i64 m.kind, .int .i64 m.frm, .int .i64 m.tto, .int .i64 m.line, .int .i64 m.op, .int .i64 m.num, .float .f64 m.flt, .string m.text, .slice m.na m.nn m.nc, .slice m.ka m.nk m.kc, .slice kk kn kc])] w fun e w' => e = .returned (.bool (usesP m.toPD false false false true false && (nameB m.text && (kidsR [16] kn q)))) ∧ Onw w w' := by
  obtain ⟨hn, hk, hkc, hnn, hz, htx, hm⟩ := H
  have ⟨O, B⟩ := st1 w 111 #[.int .i64 p, .int .i64 m.kind, .int .i64 m.frm, .int .i64 m.tto, .int .i64 m.line, .int .i64 m.op, .int .i64 m.num, .float .f64 m.flt, .string m.text, .slice m.na m.nn m.nc, .slice m.ka m.nk m.kc, .slice kk kn kc]
  have bc := B.cell
  have a_bare := as_bare_no (t := 111) (by decide)
  have a_rest := as_rest_no (t := 111) (by decide)
  have a_int := as_int_no (t := 111) (by decide)
  have a_flt := as_flt_no (t := 111) (by decide)
  have a_str := as_str_no (t := 111) (by decide)
  have a_name := as_name_no (t := 111) (by decide)
  have a_either := as_either_no (t := 111) (by decide)
  have a_unary := as_unary_no (t := 111) (by decide)
  have a_binary := as_binary_no (t := 111) (by decide)
  have a_index := as_index_no (t := 111) (by decide)
  have a_field := as_field_yes
  go_enter Try.func28, Try.ntmps28
  go_wp2_with fail
  refine (usesOnly_any m p kk kn kc 8 _ false false false true false (by simp)).mono ?_
  rintro e w1 ⟨rfl, hb⟩
  replace B := B.onw hb
  replace O := O.trans hb
  clear hb bc
  have bc := B.cell
  cases h0 : usesP m.toPD false false false true false
  · go_wp2_with fail
    go_ret
    exact ⟨ret_bool (by first | rfl | (rw [h0]; rfl) | (rw [h0, h1]; rfl) | (rw [h0, h1, h2]; rfl) | (rw [h0, h1, h2, h3]; rfl) | (rw [h0, h9]; rfl) | (simp [*]; done) | (simp_all; done)), O⟩
  · go_wp2_with fail
    refine (isName_any _ _ htx).mono ?_
    rintro e v1 ⟨rfl, rfl⟩
    cases h1 : nameB m.text
    · go_wp2_with fail
      go_ret
      exact ⟨ret_bool (by first | rfl | (rw [h0]; rfl) | (rw [h0, h1]; rfl) | (rw [h0, h1, h2]; rfl) | (rw [h0, h1, h2, h3]; rfl) | (rw [h0, h9]; rfl) | (simp [*]; done) | (simp_all; done)), O⟩
    · go_wp2_with fail
      refine (kidsAre_any m p kk kn kc q _ 1 _ (classF [16]) _ hn (hk.onw (O.trans (Onw.alloc _ _))) (by exact lay1 _ _ 16)).mono ?_
      rintro e w3 ⟨rfl, hb⟩
      replace hb := (Onw.alloc _ _).trans hb
      replace B := B.onw hb
      replace O := O.trans hb
      clear hb bc
      have bc := B.cell
      go_wp2_with fail
      go_ret
      exact ⟨ret_bool (by first | rfl | (rw [h0]; rfl) | (rw [h0, h1]; rfl) | (rw [h0, h1, h2]; rfl) | (rw [h0, h1, h2, h3]; rfl) | (rw [h0, h9]; rfl) | (simp [*]; done) | (simp_all; done)), O⟩

end Go.Proofs.Ytnokgdgikdgaeaa

namespace Go.Proofs.Ytnokgdgikdgaeaa
open Go.RowKit
attribute [local go_sem] run_store_float

variable (m : PM) (p : Int) (kk : Option Addr) (kn kc : Nat) (q : Nat → Option PX) (w : World)
set_option maxRecDepth 100000 in
set_option maxHeartbeats 4000000 in
theorem ef_unary (H : FitsAt m kk kn kc q w) :
    Calls Try.prog 28 #[.iface 108 (.agg #[.int .i64 p, .int .i64 m.kind, .int .i64 m.frm, .int .i64 m.tto, .int .i64 m.line, .int .i64 m.op, .int .i64 m.num, .float .f64 m.flt, .string m.text, .slice m.na m.nn m.nc, .slice m.ka m.nk m.kc, .slice kk kn kc])] w fun e w' => e = .returned (.bool (usesP m.toPD true false false false false && (decide ((19 : Int) ≤ m.op) && (decide (m.op ≤ 22) && (kidsR [8] kn q))))) ∧ Onw w w' := by
  obtain ⟨hn, hk, hkc, hnn, hz, htx, hm⟩ := H
  have ⟨O, B⟩ := st1 w 108 #[.int .i64 p, .int .i64 m.kind, .int .i64 m.frm, .int .i64 m.tto, .int .i64 m.line, .int .i64 m.op, .int .i64 m.num, .float .f64 m.flt, .string m.text, .slice m.na m.nn m.nc, .slice m.ka m.nk m.kc, .slice kk kn kc]
  have bc := B.cell
  have a_bare := as_bare_no (t := 108) (by decide)
  have a_rest := as_rest_no (t := 108) (by decide)
  have a_int := as_int_no (t := 108) (by decide)
  have a_flt := as_flt_no (t := 108) (by decide)
  have a_str := as_str_no (t := 108) (by decide)
  have a_name := as_name_no (t := 108) (by decide)
  have a_either := as_either_no (t := 108) (by decide)
  have a_unary := as_unary_yes
  go_enter Try.func28, Try.ntmps28
  go_wp2_with fail
  refine (usesOnly_any m p kk kn kc 1 _ true false false false false (by simp)).mono ?_
  rintro e w1 ⟨rfl, hb⟩
  replace B := B.onw hb
  replace O := O.trans hb
  clear hb bc
  have bc := B.cell
  cases h0 : usesP m.toPD true false false false false
  · go_wp2_with fail
    go_ret
    exact ⟨ret_bool (by first | rfl | (rw [h0]; rfl) | (rw [h0, h1]; rfl) | (rw [h0, h1, h2]; rfl) | (rw [h0, h1, h2, h3]; rfl) | (rw [h0, h9]; rfl) | (simp [*]; done) | (simp_all; done)), O⟩
  · by_cases c1 : (19 : Int) ≤ m.op
    · have h1 : decide ((19 : Int) ≤ m.op) = true := decide_eq_true c1
      by_cases c2 : m.op ≤ 22
      · have h2 : decide (m.op ≤ 22) = true := decide_eq_true c2
        go_wp2_with fail
        refine (kidsAre_any m p kk kn kc q _ 1 _ (classF [8]) _ hn (hk.onw (O.trans (Onw.alloc _ _))) (by exact lay1 _ _ 8)).mono ?_
        rintro e w2 ⟨rfl, hb⟩
        replace hb := (Onw.alloc _ _).trans hb
        replace B := B.onw hb
        replace O := O.trans hb
        clear hb bc
        have bc := B.cell
        go_wp2_with fail
        go_ret
        exact ⟨ret_bool (by first | rfl | (rw [h0]; rfl) | (rw [h0, h1]; rfl) | (rw [h0, h1, h2]; rfl) | (rw [h0, h1, h2, h3]; rfl) | (rw [h0, h9]; rfl) | (simp [*]; done) | (simp_all; done)), O⟩
      · have h2 : decide (m.op ≤ 22) = false := decide_eq_false c2
        go_wp2_with fail
        go_ret
        exact ⟨ret_bool (by first | rfl | (rw [h0]; rfl) | (rw [h0, h1]; rfl) | (rw [h0, h1, h2]; rfl) | (rw [h0, h1, h2, h3]; rfl) | (rw [h0, h9]; rfl) | (simp [*]; done) | (simp_all; done)), O⟩
    · have h1 : decide ((19 : Int) ≤ m.op) = false := decide_eq_false c1
      go_wp2_with fail
      go_ret
      exact ⟨ret_bool (by first | rfl | (rw [h0]; rfl) | (rw [h0, h1]; rfl) | (rw [h0, h1, h2]; rfl) | (rw [h0, h1, h2, h3]; rfl) | (rw [h0, h9]; rfl) | (simp [*]; done) | (simp_all; done)), O⟩

set_option maxRecDepth 100000 in
set_option maxHeartbeats 4000000 in
theorem ef_binary (H : FitsAt m kk kn kc q w) :
    Calls Try.prog 28 #[.iface 109 (.agg #[.int .i64 p, .int .i64 m.kind, .int .i64 m.frm, .int .i64 m.tto, .int .i64 m.line, .int .i64 m.op, .int .i64 m.num, .float .f64 m.flt, .string m.text, .slice m.na m.nn m.nc, .slice m.ka m.nk m.kc, .slice kk kn kc])] w fun e w' => e = .returned (.bool (usesP m.toPD true false false false false && (decide ((1 : Int) ≤ m.op) && (decide (m.op ≤ 18) && (kidsR [8, 8] kn q))))) ∧ Onw w w' := by
  obtain ⟨hn, hk, hkc, hnn, hz, htx, hm⟩ := H
  have ⟨O, B⟩ := st1 w 109 #[.int .i64 p, .int .i64 m.kind, .int .i64 m.frm, .int .i64 m.tto, .int .i64 m.line, .int .i64 m.op, .int .i64 m.num, .float .f64 m.flt, .string m.text, .slice m.na m.nn m.nc, .slice m.ka m.nk m.kc, .slice kk kn kc]
  have bc := B.cell
  have a_bare := as_bare_no (t := 109) (by decide)
  have a_rest := as_rest_no (t := 109) (by decide)
  have a_int := as_int_no (t := 109) (by decide)
  have a_flt := as_flt_no (t := 109) (by decide)
  have a_str := as_str_no (t := 109) (by decide)
  have a_name := as_name_no (t := 109) (by decide)
  have a_either := as_either_no (t := 109) (by decide)
  have a_unary := as_unary_no (t := 109) (by decide)
  have a_binary := as_binary_yes
  go_enter Try.func28, Try.ntmps28
  go_wp2_with fail
  refine (usesOnly_any m p kk kn kc 1 _ true false false false false (by simp)).mono ?_
  rintro e w1 ⟨rfl, hb⟩
  replace B := B.onw hb
  replace O := O.trans hb
  clear hb bc
  have bc := B.cell
  cases h0 : usesP m.toPD true false false false false
  · go_wp2_with fail
    go_ret
    exact ⟨ret_bool (by first | rfl | (rw [h0]; rfl) | (rw [h0, h1]; rfl) | (rw [h0, h1, h2]; rfl) | (rw [h0, h1, h2, h3]; rfl) | (rw [h0, h9]; rfl) | (simp [*]; done) | (simp_all; done)), O⟩
  · by_cases c1 : (1 : Int) ≤ m.op
    · have h1 : decide ((1 : Int) ≤ m.op) = true := decide_eq_true c1
      by_cases c2 : m.op ≤ 18
      · have h2 : decide (m.op ≤ 18) = true := decide_eq_true c2
        go_wp2_with fail
        refine (kidsAre_any m p kk kn kc q _ 2 _ (classF [8, 8]) _ hn (hk.onw (O.trans (Onw.alloc _ _))) (by exact lay2 _ _ 8 8)).mono ?_
        rintro e w2 ⟨rfl, hb⟩
        replace hb := (Onw.alloc _ _).trans hb
        replace B := B.onw hb
        replace O := O.trans hb
        clear hb bc
        have bc := B.cell
        go_wp2_with fail
        go_ret
        exact ⟨ret_bool (by first | rfl | (rw [h0]; rfl) | (rw [h0, h1]; rfl) | (rw [h0, h1, h2]; rfl) | (rw [h0, h1, h2, h3]; rfl) | (rw [h0, h9]; rfl) | (simp [*]; done) | (simp_all; done)), O⟩
      · have h2 : decide (m.op ≤ 18) = false := decide_eq_false c2
        go_wp2_with fail
        go_ret
        exact ⟨ret_bool (by first | rfl | (rw [h0]; rfl) | (rw [h0, h1]; rfl) | (rw [h0, h1, h2]; rfl) | (rw [h0, h1, h2, h3]; rfl) | (rw [h0, h9]; rfl) | (simp [*]; done) | (simp_all; done)), O⟩
    · have h1 : decide ((1 : Int) ≤ m.op) = false := decide_eq_false c1
      go_wp2_with fail
      go_ret
      exact ⟨ret_bool (by first | rfl | (rw [h0]; rfl) | (rw [h0, h1]; rfl) | (rw [h0, h1, h2]; rfl) | (rw [h0, h1, h2, h3]; rfl) | (rw [h0, h9]; rfl) | (simp [*]; done) | (simp_all; done)), O⟩

end Go.Proofs.Ytnokgdgikdgaeaa

namespace Go.Proofs.Ytnokgdgikdgaeaa
open Go.RowKit
attribute [local go_sem] run_store_float

variable (m : PM) (p : Int) (kk : Option Addr) (kn kc : Nat) (q : Nat → Option PX) (w : World)
set_option maxRecDepth 100000 in
set_option maxHeartbeats 4000000 in
theorem ef_call (H : FitsAt m kk kn kc q w) :
    Calls Try.prog 28 #[.iface 112 (.agg #[.int .i64 p, .int .i64 m.kind, .int .i64 m.frm, .int .i64 m.tto, .int .i64 m.line, .int .i64 m.op, .int .i64 m.num, .float .f64 m.flt, .string m.text, .slice m.na m.nn m.nc, .slice m.ka m.nk m.kc, .slice kk kn kc])] w fun e w' => e = .returned (.bool (usesP m.toPD false false false false false && ((decide ((1 : Int) ≤ kn) && (standR 16 1 q && standR 8 (kn - 1) (fun i => q (1 + i))))))) ∧ Onw w w' := by
  obtain ⟨hn, hk, hkc, hnn, hz, htx, hm⟩ := H
  have ⟨O, B⟩ := st1 w 112 #[.int .i64 p, .int .i64 m.kind, .int .i64 m.frm, .int .i64 m.tto, .int .i64 m.line, .int .i64 m.op, .int .i64 m.num, .float .f64 m.flt, .string m.text, .slice m.na m.nn m.nc, .slice m.ka m.nk m.kc, .slice kk kn kc]
  have bc := B.cell
  have a_bare := as_bare_no (t := 112) (by decide)
  have a_rest := as_rest_no (t := 112) (by decide)
  have a_int := as_int_no (t := 112) (by decide)
  have a_flt := as_flt_no (t := 112) (by decide)
  have a_str := as_str_no (t := 112) (by decide)
  have a_name := as_name_no (t := 112) (by decide)
  have a_either := as_either_no (t := 112) (by decide)
  have a_unary := as_unary_no (t := 112) (by decide)
  have a_binary := as_binary_no (t := 112) (by decide)
  have a_index := as_index_no (t := 112) (by decide)
  have a_field := as_field_no (t := 112) (by decide)
  have a_call := as_call_yes
  go_enter Try.func28, Try.ntmps28
  go_wp2_with fail
  refine (usesOnly_any m p kk kn kc 0 _ false false false false false (by simp)).mono ?_
  rintro e w1 ⟨rfl, hb⟩
  replace B := B.onw hb
  replace O := O.trans hb
  clear hb bc
  have bc := B.cell
  cases h0 : usesP m.toPD false false false false false
  · go_wp2_with fail
    go_ret
    exact ⟨ret_bool (by first | rfl | (rw [h0]; rfl) | (rw [h0, h1]; rfl) | (rw [h0, h1, h2]; rfl) | (rw [h0, h1, h2, h3]; rfl) | (rw [h0, h9]; rfl) | (simp [*]; done) | (simp_all; done)), O⟩
  · by_cases c1 : (1 : Int) ≤ kn
    · have d1 : decide ((1 : Int) ≤ kn) = true := decide_eq_true c1
      have C1 : Hid (1 ≤ kn) := by show _ ≤ _; omega
      obtain ⟨b, off, rfl, _⟩ := hk (by omega)
      have i1 : (1 : Int) ≤ (kc : Int) := by omega
      have hk1 := hk.onw O
      go_wp2_with fail
      refine (standAs_any _ 1 _ q 16 _ (by omega) (by exact vals_to hk1 (by omega))).mono ?_
      rintro e v1 ⟨rfl, hb⟩
      replace B := B.onw hb
      replace O := O.trans hb
      replace hk1 := hk1.onw hb
      clear hb bc
      have bc := B.cell
      have hE : Hid (allB (fun i => hasR (roleO (q i)) 16) 0 1 = standR 16 1 q) := rfl
      rw [hE.out]
      clear hE
      cases h2 : standR 16 1 q
      · go_wp2_with fail
        go_ret
        exact ⟨ret_bool (by rw [h0, d1, h2]; rfl), O⟩
      · go_wp2_with fail
        all_goals
          refine (standAs_any _ (kn - 1) _ (fun i => q (1 + i)) 8 _ (by omega) (by first | exact vals_from hk1 C1.out | exact fun h => absurd h (by omega))).mono ?_
          rintro e v2 ⟨rfl, hb⟩
          replace O := O.trans hb
          go_wp2_with fail
          go_ret
          exact ⟨ret_bool (by rw [h0, d1, h2]; rfl), O⟩
    · have d1 : decide ((1 : Int) ≤ kn) = false := decide_eq_false c1
      go_wp2_with fail
      go_ret
      exact ⟨ret_bool (by rw [h0, d1]; rfl), O⟩

set_option maxRecDepth 100000 in
set_option maxHeartbeats 4000000 in
theorem ef_fn (H : FitsAt m kk kn kc q w) :
    Calls Try.prog 28 #[.iface 114 (.agg #[.int .i64 p, .int .i64 m.kind, .int .i64 m.frm, .int .i64 m.tto, .int .i64 m.line, .int .i64 m.op, .int .i64 m.num, .float .f64 m.flt, .string m.text, .slice m.na m.nn m.nc, .slice m.ka m.nk m.kc, .slice kk kn kc])] w fun e w' => e = .returned (.bool (usesP m.toPD true false false false true && ((m.op == 0 || m.op == 1) && (allB (fun i => nameB (m.nm i)) 0 m.nn && (kidsR [2] kn q))))) ∧ Onw w w' := by
  obtain ⟨hn, hk, hkc, hnn, hz, htx, hm⟩ := H
  have ⟨O, B⟩ := st1 w 114 #[.int .i64 p, .int .i64 m.kind, .int .i64 m.frm, .int .i64 m.tto, .int .i64 m.line, .int .i64 m.op, .int .i64 m.num, .float .f64 m.flt, .string m.text, .slice m.na m.nn m.nc, .slice m.ka m.nk m.kc, .slice kk kn kc]
  have bc := B.cell
  have a_bare := as_bare_no (t := 114) (by decide)
  have a_rest := as_rest_no (t := 114) (by decide)
  have a_int := as_int_no (t := 114) (by decide)
  have a_flt := as_flt_no (t := 114) (by decide)
  have a_str := as_str_no (t := 114) (by decide)
  have a_name := as_name_no (t := 114) (by decide)
  have a_either := as_either_no (t := 114) (by decide)
  have a_unary := as_unary_no (t := 114) (by decide)
  have a_binary := as_binary_no (t := 114) (by decide)
  have a_index := as_index_no (t := 114) (by decide)
  have a_field := as_field_no (t := 114) (by decide)
  have a_call := as_call_no (t := 114) (by decide)
  have a_table := as_table_no (t := 114) (by decide)
  have a_fn := as_fn_yes
  go_enter Try.func28, Try.ntmps28
  go_wp2_with fail
  refine (usesOnly_any m p kk kn kc 17 _ true false false false true (by simp)).mono ?_
  rintro e w1 ⟨rfl, hb⟩
  replace B := B.onw hb
  replace O := O.trans hb
  clear hb bc
  have bc := B.cell
  cases h0 : usesP m.toPD true false false false true
  · go_wp2_with fail
    go_ret
    exact ⟨ret_bool (by first | rfl | (rw [h0]; rfl) | (rw [h0, h1]; rfl) | (rw [h0, h1, h2]; rfl) | (rw [h0, h1, h2, h3]; rfl) | (rw [h0, h9]; rfl) | (simp [*]; done) | (simp_all; done)), O⟩
  · have o0 : (m.op == 0) = true ∧ (m.op == 1) = false ∨ (m.op == 0) = false ∧ (m.op == 1) = true ∨ (m.op == 0) = false ∧ (m.op == 1) = false := by simp; omega
    rcases o0 with ⟨o0, o1⟩ | ⟨o0, o1⟩ | ⟨o0, o1⟩
    · have h1 : (m.op == 0 || m.op == 1) = true := by rw [o0, o1]; rfl
      go_wp2_with fail
      refine (areNames_any _ _ _ m.nm _ hnn hz (hm.onw O)).mono ?_
      rintro e v2 ⟨rfl, rfl⟩
      cases h2 : allB (fun i => nameB (m.nm i)) 0 m.nn
      · go_wp2_with fail
        go_ret
        exact ⟨ret_bool (by first | rfl | (rw [h0]; rfl) | (rw [h0, h1]; rfl) | (rw [h0, h1, h2]; rfl) | (rw [h0, h1, h2, h3]; rfl) | (rw [h0, h9]; rfl) | (simp [*]; done) | (simp_all; done)), O⟩
      · go_wp2_with fail
        refine (kidsAre_any m p kk kn kc q _ 1 _ (classF [2]) _ hn (hk.onw (O.trans (Onw.alloc _ _))) (by exact lay1 _ _ 2)).mono ?_
        rintro e w3 ⟨rfl, hb⟩
        replace hb := (Onw.alloc _ _).trans hb
        replace B := B.onw hb
        replace O := O.trans hb
        clear hb bc
        have bc := B.cell
        go_wp2_with fail
        go_ret
        exact ⟨ret_bool (by first | rfl | (rw [h0]; rfl) | (rw [h0, h1]; rfl) | (rw [h0, h1, h2]; rfl) | (rw [h0, h1, h2, h3]; rfl) | (rw [h0, h9]; rfl) | (simp [*]; done) | (simp_all; done)), O⟩
    · have h1 : (m.op == 0 || m.op == 1) = true := by rw [o0, o1]; rfl
      go_wp2_with fail
      refine (areNames_any _ _ _ m.nm _ hnn hz (hm.onw O)).mono ?_
      rintro e v2 ⟨rfl, rfl⟩
      cases h2 : allB (fun i => nameB (m.nm i)) 0 m.nn
      · go_wp2_with fail
        go_ret
        exact ⟨ret_bool (by first | rfl | (rw [h0]; rfl) | (rw [h0, h1]; rfl) | (rw [h0, h1, h2]; rfl) | (rw [h0, h1, h2, h3]; rfl) | (rw [h0, h9]; rfl) | (simp [*]; done) | (simp_all; done)), O⟩
      · go_wp2_with fail
        refine (kidsAre_any m p kk kn kc q _ 1 _ (classF [2]) _ hn (hk.onw (O.trans (Onw.alloc _ _))) (by exact lay1 _ _ 2)).mono ?_
        rintro e w3 ⟨rfl, hb⟩
        replace hb := (Onw.alloc _ _).trans hb
        replace B := B.onw hb
        replace O := O.trans hb
        clear hb bc
        have bc := B.cell
        go_wp2_with fail
        go_ret
        exact ⟨ret_bool (by first | rfl | (rw [h0]; rfl) | (rw [h0, h1]; rfl) | (rw [h0, h1, h2]; rfl) | (rw [h0, h1, h2, h3]; rfl) | (rw [h0, h9]; rfl) | (simp [*]; done) | (simp_all; done)), O⟩
    · have h1 : (m.op == 0 || m.op == 1) = false := by rw [o0, o1]; rfl
      go_wp2_with fail
      go_ret
      exact ⟨ret_bool (by first | rfl | (rw [h0]; rfl) | (rw [h0, h1]; rfl) | (rw [h0, h1, h2]; rfl) | (rw [h0, h1, h2, h3]; rfl) | (rw [h0, h9]; rfl) | (simp [*]; done) | (simp_all; done)), O⟩

end Go.Proofs.Ytnokgdgikdgaeaa

namespace Go.Proofs.Ytnokgdgikdgaeaa
open Go.RowKit
attribute [local go_sem] run_store_float

set_option maxRecDepth 100000 in
set_option maxHeartbeats 2000000 in
theorem targetsFit_any (m : PM) (p : Int) (kk : Option Addr) (kn kc : Nat) (q : Nat → Option PX) (w : World) (hn : kn ≤ 1048576) (hkc : kn ≤ kc) (hk : ValsAt w kk kn (fun j => pv (q j))) :
    Calls Try.prog 48 #[.agg #[.int .i64 p, .int .i64 m.kind, .int .i64 m.frm, .int .i64 m.tto, .int .i64 m.line, .int .i64 m.op, .int .i64 m.num, .float .f64 m.flt, .string m.text, .slice m.na m.nn m.nc, .slice m.ka m.nk m.kc, .slice kk kn kc]] w fun e w' => e = .returned (.bool (targetsR m.toPD kn q)) ∧ Onw w w' := by
  have fin : Hid (targetsR m.toPD kn q = (decide (1 ≤ m.num) && (decide (m.num < kn) && (standR 128 m.num.toNat q && standR 8 (kn - m.num.toNat) (fun i => q (m.num.toNat + i)))))) := rfl
  by_cases h1 : m.num < 1
  · have D : Hid (decide (1 ≤ m.num) = false) := decide_eq_false (by omega)
    go_enter Try.func48, Try.ntmps48
    go_wp2_with fail
    go_ret
    exact ⟨ret_bool (by rw [fin.out, D.out]; rfl), Onw.alloc _ _⟩
  · have D : Hid (decide (1 ≤ m.num) = true) := decide_eq_true (by omega)
    by_cases h2 : (kn : Int) ≤ m.num
    · have D2 : Hid (decide (m.num < (kn : Int)) = false) := decide_eq_false (by omega)
      go_enter Try.func48, Try.ntmps48
      go_wp2_with fail
      go_ret
      exact ⟨ret_bool (by rw [fin.out, D.out, D2.out]; rfl), Onw.alloc _ _⟩
    · have D2 : Hid (decide (m.num < (kn : Int)) = true) := decide_eq_true (by omega)
      obtain ⟨b, off, rfl, _⟩ := hk (by omega)
      have i1 : m.num ≤ (kc : Int) := by omega
      have i2 : m.num ≤ (kn : Int) := by omega
      have i0 : 0 ≤ m.num := by omega
      have B := Blk.new w 88 #[.int .i64 p, .int .i64 m.kind, .int .i64 m.frm, .int .i64 m.tto, .int .i64 m.line, .int .i64 m.op, .int .i64 m.num, .float .f64 m.flt, .string m.text, .slice m.na m.nn m.nc, .slice m.ka m.nk m.kc, .slice (some ⟨b, off, none⟩) kn kc]
      have O := Onw.alloc w (Obj.cells #[.int .i64 p, .int .i64 m.kind, .int .i64 m.frm, .int .i64 m.tto, .int .i64 m.line, .int .i64 m.op, .int .i64 m.num, .float .f64 m.flt, .string m.text, .slice m.na m.nn m.nc, .slice m.ka m.nk m.kc, .slice (some ⟨b, off, none⟩) kn kc] 88)
      have hk1 := hk.onw O
      go_enter Try.func48, Try.ntmps48
      go_wp2_with fail
      refine (standAs_any _ m.num.toNat _ q 128 _ (by omega) (by exact vals_to hk1 (by omega))).mono ?_
      rintro e w1 ⟨rfl, hb⟩
      replace B := B.onw hb
      replace O := O.trans hb
      replace hk1 := hk1.onw hb
      clear hb
      have bc := B.cell
      have hE : Hid (allB (fun i => hasR (roleO (q i)) 128) 0 m.num.toNat = standR 128 m.num.toNat q) := rfl
      rw [hE.out]
      clear hE
      cases hy : standR 128 m.num.toNat q
      · go_wp2_with fail
        go_ret
        exact ⟨ret_bool (by rw [fin.out, D.out, D2.out, hy]; rfl), O⟩
      · go_wp2_with fail
        refine (standAs_any _ (kn - m.num.toNat) _ (fun i => q (m.num.toNat + i)) 8 _ (by omega) (by exact vals_from hk1 (by omega))).mono ?_
        rintro e w2 ⟨rfl, hb⟩
        replace O := O.trans hb
        go_wp2_with fail
        go_ret
        exact ⟨ret_bool (by rw [fin.out, D.out, D2.out, hy]; rfl), O⟩
end Go.Proofs.Ytnokgdgikdgaeaa

namespace Go.Proofs.Ytnokgdgikdgaeaa
open Go.RowKit
attribute [local go_sem] run_store_float

variable (m : PM) (p : Int) (kk : Option Addr) (kn kc : Nat) (q : Nat → Option PX) (w : World)
set_option maxRecDepth 100000 in
set_option maxHeartbeats 4000000 in
theorem sf_set (H : FitsAt m kk kn kc q w) :
    Calls Try.prog 27 #[.iface 88 (.agg #[.int .i64 p, .int .i64 m.kind, .int .i64 m.frm, .int .i64 m.tto, .int .i64 m.line, .int .i64 m.op, .int .i64 m.num, .float .f64 m.flt, .string m.text, .slice m.na m.nn m.nc, .slice m.ka m.nk m.kc, .slice kk kn kc])] w fun e w' => e = .returned (.bool (usesP m.toPD false true false false false && (targetsR m.toPD kn q))) ∧ Onw w w' := by
  obtain ⟨hn, hk, hkc, hnn, hz, htx, hm⟩ := H
  have ⟨O, B⟩ := st1 w 88 #[.int .i64 p, .int .i64 m.kind, .int .i64 m.frm, .int .i64 m.tto, .int .i64 m.line, .int .i64 m.op, .int .i64 m.num, .float .f64 m.flt, .string m.text, .slice m.na m.nn m.nc, .slice m.ka m.nk m.kc, .slice kk kn kc]
  have bc := B.cell
  have a_block := as_block_no (t := 88) (by decide)
  have a_let := as_let_no (t := 88) (by decide)
  have a_const := as_const_no (t := 88) (by decide)
  have a_ownFn := as_ownFn_no (t := 88) (by decide)
  have a_set := as_set_yes
  go_enter Try.func27, Try.ntmps27
  go_wp2_with fail
  refine (usesOnly_any m p kk kn kc 2 _ false true false false false (by simp)).mono ?_
  rintro e w1 ⟨rfl, hb⟩
  replace B := B.onw hb
  replace O := O.trans hb
  clear hb bc
  have bc := B.cell
  cases h0 : usesP m.toPD false true false false false
  · go_wp2_with fail
    go_ret
    exact ⟨ret_bool (by first | rfl | (rw [h0]; rfl) | (rw [h0, h1]; rfl) | (rw [h0, h1, h2]; rfl) | (rw [h0, h1, h2, h3]; rfl) | (rw [h0, h9]; rfl) | (simp [*]; done) | (simp_all; done)), O⟩
  · go_wp2_with fail
    refine (targetsFit_any m p kk kn kc q _ hn hkc (hk.onw O)).mono ?_
    rintro e w2 ⟨rfl, hb⟩
    replace B := B.onw hb
    replace O := O.trans hb
    clear hb bc
    have bc := B.cell
    go_wp2_with fail
    go_ret
    exact ⟨ret_bool (by first | rfl | (rw [h0]; rfl) | (rw [h0, h1]; rfl) | (rw [h0, h1, h2]; rfl) | (rw [h0, h1, h2, h3]; rfl) | (rw [h0, h9]; rfl) | (simp [*]; done) | (simp_all; done)), O⟩

end Go.Proofs.Ytnokgdgikdgaeaa
