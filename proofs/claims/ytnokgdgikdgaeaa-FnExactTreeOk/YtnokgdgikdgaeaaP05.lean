import Derived.Test.YtnokgdgikdgaeaaP04
namespace Go.Proofs.Ytnokgdgikdgaeaa
open Go.RowKit
attribute [local go_sem] run_store_float

variable (m : PM) (p : Int) (kk : Option Addr) (kn kc : Nat) (q : Nat → Option PX) (w : World)
set_option maxRecDepth 100000 in
set_option maxHeartbeats 4000000 in
theorem sf_each (H : FitsAt m kk kn kc q w) :
    Calls Try.prog 27 #[.iface 94 (.agg #[.int .i64 p, .int .i64 m.kind, .int .i64 m.frm, .int .i64 m.tto, .int .i64 m.line, .int .i64 m.op, .int .i64 m.num, .float .f64 m.flt, .string m.text, .slice m.na m.nn m.nc, .slice m.ka m.nk m.kc, .slice kk kn kc])] w fun e w' => e = .returned (.bool (declP m.toPD 1 200 && (kidsR [8, 2] kn q))) ∧ Onw w w' := by
  obtain ⟨hn, hk, hkc, hnn, hz, htx, hm⟩ := H
  have ⟨O, B⟩ := st1 w 94 #[.int .i64 p, .int .i64 m.kind, .int .i64 m.frm, .int .i64 m.tto, .int .i64 m.line, .int .i64 m.op, .int .i64 m.num, .float .f64 m.flt, .string m.text, .slice m.na m.nn m.nc, .slice m.ka m.nk m.kc, .slice kk kn kc]
  have bc := B.cell
  have a_block := as_block_no (t := 94) (by decide)
  have a_let := as_let_no (t := 94) (by decide)
  have a_const := as_const_no (t := 94) (by decide)
  have a_ownFn := as_ownFn_no (t := 94) (by decide)
  have a_set := as_set_no (t := 94) (by decide)
  have a_do := as_do_no (t := 94) (by decide)
  have a_if := as_if_no (t := 94) (by decide)
  have a_while := as_while_no (t := 94) (by decide)
  have a_for := as_for_no (t := 94) (by decide)
  have a_each := as_each_yes
  go_enter Try.func27, Try.ntmps27
  go_wp2_with fail
  refine (declares_any m p kk kn kc 1 200 _ hnn hz (hm.onw O)).mono ?_
  rintro e w1 ⟨rfl, hb⟩
  replace B := B.onw hb
  replace O := O.trans hb
  clear hb bc
  have bc := B.cell
  rw [declP_eq]
  cases h0 : declP m.toPD 1 200
  · go_wp2_with fail
    go_ret
    exact ⟨ret_bool (by first | rfl | (rw [h0]; rfl) | (rw [h0, h1]; rfl) | (rw [h0, h1, h2]; rfl) | (rw [h0, h1, h2, h3]; rfl) | (rw [h0, h9]; rfl) | (simp [*]; done) | (simp_all; done)), O⟩
  · go_wp2_with fail
    refine (kidsAre_any m p kk kn kc q _ 2 _ (classF [8, 2]) _ hn (hk.onw (O.trans (Onw.alloc _ _))) (by exact lay2 _ _ 8 2)).mono ?_
    rintro e w2 ⟨rfl, hb⟩
    replace hb := (Onw.alloc _ _).trans hb
    replace B := B.onw hb
    replace O := O.trans hb
    clear hb bc
    have bc := B.cell
    go_wp2_with fail
    go_ret
    exact ⟨ret_bool (by first | rfl | (rw [h0]; rfl) | (rw [h0, h1]; rfl) | (rw [h0, h1, h2]; rfl) | (rw [h0, h1, h2, h3]; rfl) | (rw [h0, h9]; rfl) | (simp [*]; done) | (simp_all; done)), O⟩

set_option maxRecDepth 100000 in
set_option maxHeartbeats 4000000 in
theorem sf_jump (H : FitsAt m kk kn kc q w) :
    Calls Try.prog 27 #[.iface 95 (.agg #[.int .i64 p, .int .i64 m.kind, .int .i64 m.frm, .int .i64 m.tto, .int .i64 m.line, .int .i64 m.op, .int .i64 m.num, .float .f64 m.flt, .string m.text, .slice m.na m.nn m.nc, .slice m.ka m.nk m.kc, .slice kk kn kc])] w fun e w' => e = .returned (.bool (usesP m.toPD false false false false false && (kidsR [] kn q))) ∧ Onw w w' := by
  obtain ⟨hn, hk, hkc, hnn, hz, htx, hm⟩ := H
  have ⟨O, B⟩ := st1 w 95 #[.int .i64 p, .int .i64 m.kind, .int .i64 m.frm, .int .i64 m.tto, .int .i64 m.line, .int .i64 m.op, .int .i64 m.num, .float .f64 m.flt, .string m.text, .slice m.na m.nn m.nc, .slice m.ka m.nk m.kc, .slice kk kn kc]
  have bc := B.cell
  have a_block := as_block_no (t := 95) (by decide)
  have a_let := as_let_no (t := 95) (by decide)
  have a_const := as_const_no (t := 95) (by decide)
  have a_ownFn := as_ownFn_no (t := 95) (by decide)
  have a_set := as_set_no (t := 95) (by decide)
  have a_do := as_do_no (t := 95) (by decide)
  have a_if := as_if_no (t := 95) (by decide)
  have a_while := as_while_no (t := 95) (by decide)
  have a_for := as_for_no (t := 95) (by decide)
  have a_each := as_each_no (t := 95) (by decide)
  have a_jump := as_jump_yes
  go_enter Try.func27, Try.ntmps27
  go_wp2_with fail
  refine (usesOnly_any m p kk kn kc 0 _ false false false false false (by simp)).mono ?_
  rintro e w1 ⟨rfl, hb⟩
  replace B := B.onw hb
  replace O := O.trans hb
  clear hb bc
  have bc := B.cell
  cases h0 : usesP m.toPD false false false false false
  · go_wp2_with fail
    go_ret
    exact ⟨ret_bool (by first | rfl | (rw [h0]; rfl) | (rw [h0, h1]; rfl) | (rw [h0, h1, h2]; rfl) | (rw [h0, h1, h2, h3]; rfl) | (rw [h0, h9]; rfl) | (simp [*]; done) | (simp_all; done)), O⟩
  · go_wp2_with fail
    refine (kidsAre_any m p kk kn kc q none 0 0 (classF []) _ hn (hk.onw O) (fun h => absurd h (Nat.not_lt_zero _))).mono ?_
    rintro e w2 ⟨rfl, hb⟩
    replace B := B.onw hb
    replace O := O.trans hb
    clear hb bc
    have bc := B.cell
    go_wp2_with fail
    go_ret
    exact ⟨ret_bool (by first | rfl | (rw [h0]; rfl) | (rw [h0, h1]; rfl) | (rw [h0, h1, h2]; rfl) | (rw [h0, h1, h2, h3]; rfl) | (rw [h0, h9]; rfl) | (simp [*]; done) | (simp_all; done)), O⟩

set_option maxRecDepth 100000 in
set_option maxHeartbeats 4000000 in
theorem sf_return (H : FitsAt m kk kn kc q w) :
    Calls Try.prog 27 #[.iface 96 (.agg #[.int .i64 p, .int .i64 m.kind, .int .i64 m.frm, .int .i64 m.tto, .int .i64 m.line, .int .i64 m.op, .int .i64 m.num, .float .f64 m.flt, .string m.text, .slice m.na m.nn m.nc, .slice m.ka m.nk m.kc, .slice kk kn kc])] w fun e w' => e = .returned (.bool (usesP m.toPD false false false false false && (standR 8 kn q))) ∧ Onw w w' := by
  obtain ⟨hn, hk, hkc, hnn, hz, htx, hm⟩ := H
  have ⟨O, B⟩ := st1 w 96 #[.int .i64 p, .int .i64 m.kind, .int .i64 m.frm, .int .i64 m.tto, .int .i64 m.line, .int .i64 m.op, .int .i64 m.num, .float .f64 m.flt, .string m.text, .slice m.na m.nn m.nc, .slice m.ka m.nk m.kc, .slice kk kn kc]
  have bc := B.cell
  have a_block := as_block_no (t := 96) (by decide)
  have a_let := as_let_no (t := 96) (by decide)
  have a_const := as_const_no (t := 96) (by decide)
  have a_ownFn := as_ownFn_no (t := 96) (by decide)
  have a_set := as_set_no (t := 96) (by decide)
  have a_do := as_do_no (t := 96) (by decide)
  have a_if := as_if_no (t := 96) (by decide)
  have a_while := as_while_no (t := 96) (by decide)
  have a_for := as_for_no (t := 96) (by decide)
  have a_each := as_each_no (t := 96) (by decide)
  have a_jump := as_jump_no (t := 96) (by decide)
  have a_return := as_return_yes
  go_enter Try.func27, Try.ntmps27
  go_wp2_with fail
  refine (usesOnly_any m p kk kn kc 0 _ false false false false false (by simp)).mono ?_
  rintro e w1 ⟨rfl, hb⟩
  replace B := B.onw hb
  replace O := O.trans hb
  clear hb bc
  have bc := B.cell
  cases h0 : usesP m.toPD false false false false false
  · go_wp2_with fail
    go_ret
    exact ⟨ret_bool (by first | rfl | (rw [h0]; rfl) | (rw [h0, h1]; rfl) | (rw [h0, h1, h2]; rfl) | (rw [h0, h1, h2, h3]; rfl) | (rw [h0, h9]; rfl) | (simp [*]; done) | (simp_all; done)), O⟩
  · go_wp2_with fail
    refine (standAs_any _ _ _ q 8 _ hn (hk.onw O)).mono ?_
    rintro e w2 ⟨rfl, hb⟩
    replace B := B.onw hb
    replace O := O.trans hb
    clear hb bc
    have bc := B.cell
    go_wp2_with fail
    go_ret
    exact ⟨ret_bool (by first | rfl | (rw [h0]; rfl) | (rw [h0, h1]; rfl) | (rw [h0, h1, h2]; rfl) | (rw [h0, h1, h2, h3]; rfl) | (rw [h0, h9]; rfl) | (simp [*]; done) | (simp_all; done)), O⟩

set_option maxRecDepth 100000 in
set_option maxHeartbeats 4000000 in
theorem sf_try (H : FitsAt m kk kn kc q w) :
    Calls Try.prog 27 #[.iface 97 (.agg #[.int .i64 p, .int .i64 m.kind, .int .i64 m.frm, .int .i64 m.tto, .int .i64 m.line, .int .i64 m.op, .int .i64 m.num, .float .f64 m.flt, .string m.text, .slice m.na m.nn m.nc, .slice m.ka m.nk m.kc, .slice kk kn kc])] w fun e w' => e = .returned (.bool (declP m.toPD 1 2 && (kidsR [2, 2] kn q))) ∧ Onw w w' := by
  obtain ⟨hn, hk, hkc, hnn, hz, htx, hm⟩ := H
  have ⟨O, B⟩ := st1 w 97 #[.int .i64 p, .int .i64 m.kind, .int .i64 m.frm, .int .i64 m.tto, .int .i64 m.line, .int .i64 m.op, .int .i64 m.num, .float .f64 m.flt, .string m.text, .slice m.na m.nn m.nc, .slice m.ka m.nk m.kc, .slice kk kn kc]
  have bc := B.cell
  have a_block := as_block_no (t := 97) (by decide)
  have a_let := as_let_no (t := 97) (by decide)
  have a_const := as_const_no (t := 97) (by decide)
  have a_ownFn := as_ownFn_no (t := 97) (by decide)
  have a_set := as_set_no (t := 97) (by decide)
  have a_do := as_do_no (t := 97) (by decide)
  have a_if := as_if_no (t := 97) (by decide)
  have a_while := as_while_no (t := 97) (by decide)
  have a_for := as_for_no (t := 97) (by decide)
  have a_each := as_each_no (t := 97) (by decide)
  have a_jump := as_jump_no (t := 97) (by decide)
  have a_return := as_return_no (t := 97) (by decide)
  have a_try := as_try_yes
  go_enter Try.func27, Try.ntmps27
  go_wp2_with fail
  refine (declares_any m p kk kn kc 1 2 _ hnn hz (hm.onw O)).mono ?_
  rintro e w1 ⟨rfl, hb⟩
  replace B := B.onw hb
  replace O := O.trans hb
  clear hb bc
  have bc := B.cell
  rw [declP_eq]
  cases h0 : declP m.toPD 1 2
  · go_wp2_with fail
    go_ret
    exact ⟨ret_bool (by first | rfl | (rw [h0]; rfl) | (rw [h0, h1]; rfl) | (rw [h0, h1, h2]; rfl) | (rw [h0, h1, h2, h3]; rfl) | (rw [h0, h9]; rfl) | (simp [*]; done) | (simp_all; done)), O⟩
  · go_wp2_with fail
    refine (kidsAre_any m p kk kn kc q _ 2 _ (classF [2, 2]) _ hn (hk.onw (O.trans (Onw.alloc _ _))) (by exact lay2 _ _ 2 2)).mono ?_
    rintro e w2 ⟨rfl, hb⟩
    replace hb := (Onw.alloc _ _).trans hb
    replace B := B.onw hb
    replace O := O.trans hb
    clear hb bc
    have bc := B.cell
    go_wp2_with fail
    go_ret
    exact ⟨ret_bool (by first | rfl | (rw [h0]; rfl) | (rw [h0, h1]; rfl) | (rw [h0, h1, h2]; rfl) | (rw [h0, h1, h2, h3]; rfl) | (rw [h0, h9]; rfl) | (simp [*]; done) | (simp_all; done)), O⟩

set_option maxRecDepth 100000 in
set_option maxHeartbeats 4000000 in
theorem sf_throw (H : FitsAt m kk kn kc q w) :
    Calls Try.prog 27 #[.iface 98 (.agg #[.int .i64 p, .int .i64 m.kind, .int .i64 m.frm, .int .i64 m.tto, .int .i64 m.line, .int .i64 m.op, .int .i64 m.num, .float .f64 m.flt, .string m.text, .slice m.na m.nn m.nc, .slice m.ka m.nk m.kc, .slice kk kn kc])] w fun e w' => e = .returned (.bool (usesP m.toPD false false false false false && (kidsR [8] kn q))) ∧ Onw w w' := by
  obtain ⟨hn, hk, hkc, hnn, hz, htx, hm⟩ := H
  have ⟨O, B⟩ := st1 w 98 #[.int .i64 p, .int .i64 m.kind, .int .i64 m.frm, .int .i64 m.tto, .int .i64 m.line, .int .i64 m.op, .int .i64 m.num, .float .f64 m.flt, .string m.text, .slice m.na m.nn m.nc, .slice m.ka m.nk m.kc, .slice kk kn kc]
  have bc := B.cell
  have a_block := as_block_no (t := 98) (by decide)
  have a_let := as_let_no (t := 98) (by decide)
  have a_const := as_const_no (t := 98) (by decide)
  have a_ownFn := as_ownFn_no (t := 98) (by decide)
  have a_set := as_set_no (t := 98) (by decide)
  have a_do := as_do_no (t := 98) (by decide)
  have a_if := as_if_no (t := 98) (by decide)
  have a_while := as_while_no (t := 98) (by decide)
  have a_for := as_for_no (t := 98) (by decide)
  have a_each := as_each_no (t := 98) (by decide)
  have a_jump := as_jump_no (t := 98) (by decide)
  have a_return := as_return_no (t := 98) (by decide)
  have a_try := as_try_no (t := 98) (by decide)
  have a_throw := as_throw_yes
  go_enter Try.func27, Try.ntmps27
  go_wp2_with fail
  refine (usesOnly_any m p kk kn kc 0 _ false false false false false (by simp)).mono ?_
  rintro e w1 ⟨rfl, hb⟩
  replace B := B.onw hb
  replace O := O.trans hb
  clear hb bc
  have bc := B.cell
  cases h0 : usesP m.toPD false false false false false
  · go_wp2_with fail
    go_ret
    exact ⟨ret_bool (by first | rfl | (rw [h0]; rfl) | (rw [h0, h1]; rfl) | (rw [h0, h1, h2]; rfl) | (rw [h0, h1, h2, h3]; rfl) | (rw [h0, h9]; rfl) | (simp [*]; done) | (simp_all; done)), O⟩
  · go_wp2_with fail
    refine (kidsAre_any m p kk kn kc q _ 1 _ (classF [8]) _ hn (hk.onw (O.trans (Onw.alloc _ _))) (by exact lay1 _ _ 8)).mono ?_
    rintro e w2 ⟨rfl, hb⟩
    replace hb := (Onw.alloc _ _).trans hb
    replace B := B.onw hb
    replace O := O.trans hb
    clear hb bc
    have bc := B.cell
    go_wp2_with fail
    go_ret
    exact ⟨ret_bool (by first | rfl | (rw [h0]; rfl) | (rw [h0, h1]; rfl) | (rw [h0, h1, h2]; rfl) | (rw [h0, h1, h2, h3]; rfl) | (rw [h0, h9]; rfl) | (simp [*]; done) | (simp_all; done)), O⟩

end Go.Proofs.Ytnokgdgikdgaeaa

namespace Go.Proofs.Ytnokgdgikdgaeaa
open Go.RowKit
attribute [local go_sem] run_store_float

variable (m : PM) (p : Int) (kk : Option Addr) (kn kc : Nat) (q : Nat → Option PX) (w : World)
set_option maxRecDepth 100000 in
set_option maxHeartbeats 4000000 in
theorem ef_bare (H : FitsAt m kk kn kc q w) :
    Calls Try.prog 28 #[.iface 100 (.agg #[.int .i64 p, .int .i64 m.kind, .int .i64 m.frm, .int .i64 m.tto, .int .i64 m.line, .int .i64 m.op, .int .i64 m.num, .float .f64 m.flt, .string m.text, .slice m.na m.nn m.nc, .slice m.ka m.nk m.kc, .slice kk kn kc])] w fun e w' => e = .returned (.bool (usesP m.toPD false false false false false && (kidsR [] kn q))) ∧ Onw w w' := by
  obtain ⟨hn, hk, hkc, hnn, hz, htx, hm⟩ := H
  have ⟨O, B⟩ := st1 w 100 #[.int .i64 p, .int .i64 m.kind, .int .i64 m.frm, .int .i64 m.tto, .int .i64 m.line, .int .i64 m.op, .int .i64 m.num, .float .f64 m.flt, .string m.text, .slice m.na m.nn m.nc, .slice m.ka m.nk m.kc, .slice kk kn kc]
  have bc := B.cell
  have a_bare := as_bare_yes
  go_enter Try.func28, Try.ntmps28
  go_wp2_with fail
  refine (usesOnly_any m p kk kn kc 0 _ false false false false false (by simp)).mono ?_
  rintro e w1 ⟨rfl, hb⟩
  replace B := B.onw hb
  replace O := O.trans hb
  clear hb bc
  have bc := B.cell
  cases h0 : usesP m.toPD false false false false false
  · go_wp2_with fail
    go_ret
    exact ⟨ret_bool (by first | rfl | (rw [h0]; rfl) | (rw [h0, h1]; rfl) | (rw [h0, h1, h2]; rfl) | (rw [h0, h1, h2, h3]; rfl) | (rw [h0, h9]; rfl) | (simp [*]; done) | (simp_all; done)), O⟩
  · go_wp2_with fail
    refine (kidsAre_any m p kk kn kc q none 0 0 (classF []) _ hn (hk.onw O) (fun h => absurd h (Nat.not_lt_zero _))).mono ?_
    rintro e w2 ⟨rfl, hb⟩
    replace B := B.onw hb
    replace O := O.trans hb
    clear hb bc
    have bc := B.cell
    go_wp2_with fail
    go_ret
    exact ⟨ret_bool (by first | rfl | (rw [h0]; rfl) | (rw [h0, h1]; rfl) | (rw [h0, h1, h2]; rfl) | (rw [h0, h1, h2, h3]; rfl) | (rw [h0, h9]; rfl) | (simp [*]; done) | (simp_all; done)), O⟩

set_option maxRecDepth 100000 in
set_option maxHeartbeats 4000000 in
theorem ef_rest (H : FitsAt m kk kn kc q w) :
    Calls Try.prog 28 #[.iface 101 (.agg #[.int .i64 p, .int .i64 m.kind, .int .i64 m.frm, .int .i64 m.tto, .int .i64 m.line, .int .i64 m.op, .int .i64 m.num, .float .f64 m.flt, .string m.text, .slice m.na m.nn m.nc, .slice m.ka m.nk m.kc, .slice kk kn kc])] w fun e w' => e = .returned (.bool (usesP m.toPD false false false false false && (kidsR [] kn q))) ∧ Onw w w' := by
  obtain ⟨hn, hk, hkc, hnn, hz, htx, hm⟩ := H
  have ⟨O, B⟩ := st1 w 101 #[.int .i64 p, .int .i64 m.kind, .int .i64 m.frm, .int .i64 m.tto, .int .i64 m.line, .int .i64 m.op, .int .i64 m.num, .float .f64 m.flt, .string m.text, .slice m.na m.nn m.nc, .slice m.ka m.nk m.kc, .slice kk kn kc]
  have bc := B.cell
  have a_bare := as_bare_no (t := 101) (by decide)
  have a_rest := as_rest_yes
  go_enter Try.func28, Try.ntmps28
  go_wp2_with fail
  refine (usesOnly_any m p kk kn kc 0 _ false false false false false (by simp)).mono ?_
  rintro e w1 ⟨rfl, hb⟩
  replace B := B.onw hb
  replace O := O.trans hb
  clear hb bc
  have bc := B.cell
  cases h0 : usesP m.toPD false false false false false
  · go_wp2_with fail
    go_ret
    exact ⟨ret_bool (by first | rfl | (rw [h0]; rfl) | (rw [h0, h1]; rfl) | (rw [h0, h1, h2]; rfl) | (rw [h0, h1, h2, h3]; rfl) | (rw [h0, h9]; rfl) | (simp [*]; done) | (simp_all; done)), O⟩
  · go_wp2_with fail
    refine (kidsAre_any m p kk kn kc q none 0 0 (classF []) _ hn (hk.onw O) (fun h => absurd h (Nat.not_lt_zero _))).mono ?_
    rintro e w2 ⟨rfl, hb⟩
    replace B := B.onw hb
    replace O := O.trans hb
    clear hb bc
    have bc := B.cell
    go_wp2_with fail
    go_ret
    exact ⟨ret_bool (by first | rfl | (rw [h0]; rfl) | (rw [h0, h1]; rfl) | (rw [h0, h1, h2]; rfl) | (rw [h0, h1, h2, h3]; rfl) | (rw [h0, h9]; rfl) | (simp [*]; done) | (simp_all; done)), O⟩

set_option maxRecDepth 100000 in
set_option maxHeartbeats 4000000 in
theorem ef_int (H : FitsAt m kk kn kc q w) :
    Calls Try.prog 28 #[.iface 102 (.agg #[.int .i64 p, .int .i64 m.kind, .int .i64 m.frm, .int .i64 m.tto, .int .i64 m.line, .int .i64 m.op, .int .i64 m.num, .float .f64 m.flt, .string m.text, .slice m.na m.nn m.nc, .slice m.ka m.nk m.kc, .slice kk kn kc])] w fun e w' => e = .returned (.bool (usesP m.toPD false true false false false && (kidsR [] kn q))) ∧ Onw w w' := by
  obtain ⟨hn, hk, hkc, hnn, hz, htx, hm⟩ := H
  have ⟨O, B⟩ := st1 w 102 #[.int .i64 p, .int .i64 m.kind, .int .i64 m.frm, .int .i64 m.tto, .int .i64 m.line, .int .i64 m.op, .int .i64 m.num, .float .f64 m.flt, .string m.text, .slice m.na m.nn m.nc, .slice m.ka m.nk m.kc, .slice kk kn kc]
  have bc := B.cell
  have a_bare := as_bare_no (t := 102) (by decide)
  have a_rest := as_rest_no (t := 102) (by decide)
  have a_int := as_int_yes
  go_enter Try.func28, Try.ntmps28
  go_wp2_with fail
  refine (usesOnly_any m p kk kn kc 2 _ false true false false false (by simp)).mono ?_
  rintro e w1 ⟨rfl, hb⟩
  replace B := B.onw hb
  replace O := O.trans hb
  clear hb bc
  have bc := B.cell
  cases h0 : usesP m.toPD false true false false false
  · go_wp2_with fail
    go_ret
    exact ⟨ret_bool (by first | rfl | (rw [h0]; rfl) | (rw [h0, h1]; rfl) | (rw [h0, h1, h2]; rfl) | (rw [h0, h1, h2, h3]; rfl) | (rw [h0, h9]; rfl) | (simp [*]; done) | (simp_all; done)), O⟩
  · go_wp2_with fail
    refine (kidsAre_any m p kk kn kc q none 0 0 (classF []) _ hn (hk.onw O) (fun h => absurd h (Nat.not_lt_zero _))).mono ?_
    rintro e w2 ⟨rfl, hb⟩
    replace B := B.onw hb
    replace O := O.trans hb
    clear hb bc
    have bc := B.cell
    go_wp2_with fail
    go_ret
    exact ⟨ret_bool (by first | rfl | (rw [h0]; rfl) | (rw [h0, h1]; rfl) | (rw [h0, h1, h2]; rfl) | (rw [h0, h1, h2, h3]; rfl) | (rw [h0, h9]; rfl) | (simp [*]; done) | (simp_all; done)), O⟩

set_option maxRecDepth 100000 in
set_option maxHeartbeats 4000000 in
theorem ef_either (H : FitsAt m kk kn kc q w) :
    Calls Try.prog 28 #[.iface 107 (.agg #[.int .i64 p, .int .i64 m.kind, .int .i64 m.frm, .int .i64 m.tto, .int .i64 m.line, .int .i64 m.op, .int .i64 m.num, .float .f64 m.flt, .string m.text, .slice m.na m.nn m.nc, .slice m.ka m.nk m.kc, .slice kk kn kc])] w fun e w' => e = .returned (.bool (usesP m.toPD false false false false false && (kidsR [8, 8] kn q))) ∧ Onw w w' := by
  obtain ⟨hn, hk, hkc, hnn, hz, htx, hm⟩ := H
  have ⟨O, B⟩ := st1 w 107 #[.int .i64 p, .int .i64 m.kind, .int .i64 m.frm, .int .i64 m.tto, .int .i64 m.line, .int .i64 m.op, .int .i64 m.num, .float .f64 m.flt, .string m.text, .slice m.na m.nn m.nc, .slice m.ka m.nk m.kc, .slice kk kn kc]
  have bc := B.cell
  have a_bare := as_bare_no (t := 107) (by decide)
  have a_rest := as_rest_no (t := 107) (by decide)
  have a_int := as_int_no (t := 107) (by decide)
  have a_flt := as_flt_no (t := 107) (by decide)
  have a_str := as_str_no (t := 107) (by decide)
  have a_name := as_name_no (t := 107) (by decide)
  have a_either := as_either_yes
  go_enter Try.func28, Try.ntmps28
  go_wp2_with fail
  refine (usesOnly_any m p kk kn kc 0 _ false false false false false (by simp)).mono ?_
  rintro e w1 ⟨rfl, hb⟩
  replace B := B.onw hb
  replace O := O.trans hb
  clear hb bc
  have bc := B.cell
  cases h0 : usesP m.toPD false false false false false
  · go_wp2_with fail
    go_ret
    exact ⟨ret_bool (by first | rfl | (rw [h0]; rfl) | (rw [h0, h1]; rfl) | (rw [h0, h1, h2]; rfl) | (rw [h0, h1, h2, h3]; rfl) | (rw [h0, h9]; rfl) | (simp [*]; done) | (simp_all; done)), O⟩
  · go_wp2_with fail
    refine (kidsAre_any m p kk kn kc q _ 2 _ (classF [8, 8]) _ hn (hk.onw (O.trans (Onw.alloc _ _))) (by exact lay2 _ _ 8 8)).mono ?_
    rintro e w2 ⟨rfl, hb⟩
    replace hb := (Onw.alloc _ _).trans hb
    replace B := B.onw hb
    replace O := O.trans hb
    clear hb bc
    have bc := B.cell
    go_wp2_with fail
    go_ret
    exact ⟨ret_bool (by first | rfl | (rw [h0]; rfl) | (rw [h0, h1]; rfl) | (rw [h0, h1, h2]; rfl) | (rw [h0, h1, h2, h3]; rfl) | (rw [h0, h9]; rfl) | (simp [*]; done) | (simp_all; done)), O⟩

set_option maxRecDepth 100000 in
set_option maxHeartbeats 4000000 in
theorem ef_index (H : FitsAt m kk kn kc q w) :
    Calls Try.prog 28 #[.iface 110 (.agg #[.int .i64 p, .int .i64 m.kind, .int .i64 m.frm, .int .i64 m.tto, .int .i64 m.line, .int .i64 m.op, .int .i64 m.num, .float .f64 m.flt, .string m.text, .slice m.na m.nn m.nc, .slice m.ka m.nk m.kc, .slice kk kn kc])] w fun e w' => e = .returned (.bool (usesP m.toPD false false false false false && (kidsR [16, 8] kn q))) ∧ Onw w w' := by
  obtain ⟨hn, hk, hkc, hnn, hz, htx, hm⟩ := H
  have ⟨O, B⟩ := st1 w 110 #[.int .i64 p, .int .i64 m.kind, .int .i64 m.frm, .int .i64 m.tto, .int .i64 m.line, .int .i64 m.op, .int .i64 m.num, .float .f64 m.flt, .string m.text, .slice m.na m.nn m.nc, .slice m.ka m.nk m.kc, .slice kk kn kc]
  have bc := B.cell
  have a_bare := as_bare_no (t := 110) (by decide)
  have a_rest := as_rest_no (t := 110) (by decide)
  have a_int := as_int_no (t := 110) (by decide)
  have a_flt := as_flt_no (t := 110) (by decide)
  have a_str := as_str_no (t := 110) (by decide)
  have a_name := as_name_no (t := 110) (by decide)
  have a_either := as_either_no (t := 110) (by decide)
  have a_unary := as_unary_no (t := 110) (by decide)
  have a_binary := as_binary_no (t := 110) (by decide)
  have a_index := as_index_yes
  go_enter Try.func28, Try.ntmps28
  go_wp2_with fail
  refine (usesOnly_any m p kk kn kc 0 _ false false false false false (by simp)).mono ?_
  rintro e w1 ⟨rfl, hb⟩
  replace B := B.onw hb
  replace O := O.trans hb
  clear hb bc
  have bc := B.cell
  cases h0 : usesP m.toPD false false false false false
  · go_wp2_with fail
    go_ret
    exact ⟨ret_bool (by first | rfl | (rw [h0]; rfl) | (rw [h0, h1]; rfl) | (rw [h0, h1, h2]; rfl) | (rw [h0, h1, h2, h3]; rfl) | (rw [h0, h9]; rfl) | (simp [*]; done) | (simp_all; done)), O⟩
  · go_wp2_with fail
    refine (kidsAre_any m p kk kn kc q _ 2 _ (classF [16, 8]) _ hn (hk.onw (O.trans (Onw.alloc _ _))) (by exact lay2 _ _ 16 8)).mono ?_
    rintro e w2 ⟨rfl, hb⟩
    replace hb := (Onw.alloc _ _).trans hb
    replace B := B.onw hb
    replace O := O.trans hb
    clear hb bc
    have bc := B.cell
    go_wp2_with fail
    go_ret
    exact ⟨ret_bool (by first | rfl | (rw [h0]; rfl) | (rw [h0, h1]; rfl) | (rw [h0, h1, h2]; rfl) | (rw [h0, h1, h2, h3]; rfl) | (rw [h0, h9]; rfl) | (simp [*]; done) | (simp_all; done)), O⟩

set_option maxRecDepth 100000 in
set_option maxHeartbeats 4000000 in
theorem ef_table (H : FitsAt m kk kn kc q w) :
    Calls Try.prog 28 #[.iface 113 (.agg #[.int .i64 p, .int .i64 m.kind, .int .i64 m.frm, .int .i64 m.tto, .int .i64 m.line, .int .i64 m.op, .int .i64 m.num, .float .f64 m.flt, .string m.text, .slice m.na m.nn m.nc, .slice m.ka m.nk m.kc, .slice kk kn kc])] w fun e w' => e = .returned (.bool (usesP m.toPD false false false false false && (standR 512 kn q))) ∧ Onw w w' := by
  obtain ⟨hn, hk, hkc, hnn, hz, htx, hm⟩ := H
  have ⟨O, B⟩ := st1 w 113 #[.int .i64 p, .int .i64 m.kind, .int .i64 m.frm, .int .i64 m.tto, .int .i64 m.line, .int .i64 m.op, .int .i64 m.num, .float .f64 m.flt, .string m.text, .slice m.na m.nn m.nc, .slice m.ka m.nk m.kc, .slice kk kn kc]
  have bc := B.cell
  have a_bare := as_bare_no (t := 113) (by decide)
  have a_rest := as_rest_no (t := 113) (by decide)
  have a_int := as_int_no (t := 113) (by decide)
  have a_flt := as_flt_no (t := 113) (by decide)
  have a_str := as_str_no (t := 113) (by decide)
  have a_name := as_name_no (t := 113) (by decide)
  have a_either := as_either_no (t := 113) (by decide)
  have a_unary := as_unary_no (t := 113) (by decide)
  have a_binary := as_binary_no (t := 113) (by decide)
  have a_index := as_index_no (t := 113) (by decide)
  have a_field := as_field_no (t := 113) (by decide)
  have a_call := as_call_no (t := 113) (by decide)
  have a_table := as_table_yes
  go_enter Try.func28, Try.ntmps28
  go_wp2_with fail
  refine (usesOnly_any m p kk kn kc 0 _ false false false false false (by simp)).mono ?_
  rintro e w1 ⟨rfl, hb⟩
  replace B := B.onw hb
  replace O := O.trans hb
  clear hb bc
  have bc := B.cell
  cases h0 : usesP m.toPD false false false false false
  · go_wp2_with fail
    go_ret
    exact ⟨ret_bool (by first | rfl | (rw [h0]; rfl) | (rw [h0, h1]; rfl) | (rw [h0, h1, h2]; rfl) | (rw [h0, h1, h2, h3]; rfl) | (rw [h0, h9]; rfl) | (simp [*]; done) | (simp_all; done)), O⟩
  · go_wp2_with fail
    refine (standAs_any _ _ _ q 512 _ hn (hk.onw O)).mono ?_
    rintro e w2 ⟨rfl, hb⟩
    replace B := B.onw hb
    replace O := O.trans hb
    clear hb bc
    have bc := B.cell
    go_wp2_with fail
    go_ret
    exact ⟨ret_bool (by first | rfl | (rw [h0]; rfl) | (rw [h0, h1]; rfl) | (rw [h0, h1, h2]; rfl) | (rw [h0, h1, h2, h3]; rfl) | (rw [h0, h9]; rfl) | (simp [*]; done) | (simp_all; done)), O⟩

set_option maxRecDepth 100000 in
set_option maxHeartbeats 4000000 in
theorem ef_one (H : FitsAt m kk kn kc q w) :
    Calls Try.prog 28 #[.iface 116 (.agg #[.int .i64 p, .int .i64 m.kind, .int .i64 m.frm, .int .i64 m.tto, .int .i64 m.line, .int .i64 m.op, .int .i64 m.num, .float .f64 m.flt, .string m.text, .slice m.na m.nn m.nc, .slice m.ka m.nk m.kc, .slice kk kn kc])] w fun e w' => e = .returned (.bool (usesP m.toPD false false false false false && (kidsR [64] kn q))) ∧ Onw w w' := by
  obtain ⟨hn, hk, hkc, hnn, hz, htx, hm⟩ := H
  have ⟨O, B⟩ := st1 w 116 #[.int .i64 p, .int .i64 m.kind, .int .i64 m.frm, .int .i64 m.tto, .int .i64 m.line, .int .i64 m.op, .int .i64 m.num, .float .f64 m.flt, .string m.text, .slice m.na m.nn m.nc, .slice m.ka m.nk m.kc, .slice kk kn kc]
  have bc := B.cell
  have a_bare := as_bare_no (t := 116) (by decide)
  have a_rest := as_rest_no (t := 116) (by decide)
  have a_int := as_int_no (t := 116) (by decide)
  have a_flt := as_flt_no (t := 116) (by decide)
  have a_str := as_str_no (t := 116) (by decide)
  have a_name := as_name_no (t := 116) (by decide)
  have a_either := as_either_no (t := 116) (by decide)
  have a_unary := as_unary_no (t := 116) (by decide)
  have a_binary := as_binary_no (t := 116) (by decide)
  have a_index := as_index_no (t := 116) (by decide)
  have a_field := as_field_no (t := 116) (by decide)
  have a_call := as_call_no (t := 116) (by decide)
  have a_table := as_table_no (t := 116) (by decide)
  have a_fn := as_fn_no (t := 116) (by decide)
  have a_one := as_one_yes
  go_enter Try.func28, Try.ntmps28
  go_wp2_with fail
  refine (usesOnly_any m p kk kn kc 0 _ false false false false false (by simp)).mono ?_
  rintro e w1 ⟨rfl, hb⟩
  replace B := B.onw hb
  replace O := O.trans hb
  clear hb bc
  have bc := B.cell
  cases h0 : usesP m.toPD false false false false false
  · go_wp2_with fail
    go_ret
    exact ⟨ret_bool (by first | rfl | (rw [h0]; rfl) | (rw [h0, h1]; rfl) | (rw [h0, h1, h2]; rfl) | (rw [h0, h1, h2, h3]; rfl) | (rw [h0, h9]; rfl) | (simp [*]; done) | (simp_all; done)), O⟩
  · go_wp2_with fail
    refine (kidsAre_any m p kk kn kc q _ 1 _ (classF [64]) _ hn (hk.onw (O.trans (Onw.alloc _ _))) (by exact lay1 _ _ 64)).mono ?_
    rintro e w2 ⟨rfl, hb⟩
    replace hb := (Onw.alloc _ _).trans hb
    replace B := B.onw hb
    replace O := O.trans hb
    clear hb bc
    have bc := B.cell
    go_wp2_with fail
    go_ret
    exact ⟨ret_bool (by first | rfl | (rw [h0]; rfl) | (rw [h0, h1]; rfl) | (rw [h0, h1, h2]; rfl) | (rw [h0, h1, h2, h3]; rfl) | (rw [h0, h9]; rfl) | (simp [*]; done) | (simp_all; done)), O⟩

end Go.Proofs.Ytnokgdgikdgaeaa

namespace Go.Proofs.Ytnokgdgikdgaeaa
open Go.RowKit
attribute [local go_sem] run_store_float

variable (m : PM) (p : Int) (kk : Option Addr) (kn kc : Nat) (q : Nat → Option PX) (w : World)
set_option maxRecDepth 100000 in
set_option maxHeartbeats 4000000 in
theorem nf_item (H : FitsAt m kk kn kc q w) :
    Calls Try.prog 29 #[.iface 119 (.agg #[.int .i64 p, .int .i64 m.kind, .int .i64 m.frm, .int .i64 m.tto, .int .i64 m.line, .int .i64 m.op, .int .i64 m.num, .float .f64 m.flt, .string m.text, .slice m.na m.nn m.nc, .slice m.ka m.nk m.kc, .slice kk kn kc])] w fun e w' => e = .returned (.bool (usesP m.toPD false false false false false && (kidsR [8] kn q))) ∧ Onw w w' := by
  obtain ⟨hn, hk, hkc, hnn, hz, htx, hm⟩ := H
  have ⟨O, B⟩ := st1 w 119 #[.int .i64 p, .int .i64 m.kind, .int .i64 m.frm, .int .i64 m.tto, .int .i64 m.line, .int .i64 m.op, .int .i64 m.num, .float .f64 m.flt, .string m.text, .slice m.na m.nn m.nc, .slice m.ka m.nk m.kc, .slice kk kn kc]
  have bc := B.cell
  have a_item := as_item_yes
  go_enter Try.func29, Try.ntmps29
  go_wp2_with fail
  refine (usesOnly_any m p kk kn kc 0 _ false false false false false (by simp)).mono ?_
  rintro e w1 ⟨rfl, hb⟩
  replace B := B.onw hb
  replace O := O.trans hb
  clear hb bc
  have bc := B.cell
  cases h0 : usesP m.toPD false false false false false
  · go_wp2_with fail
    go_ret
    exact ⟨ret_bool (by first | rfl | (rw [h0]; rfl) | (rw [h0, h1]; rfl) | (rw [h0, h1, h2]; rfl) | (rw [h0, h1, h2, h3]; rfl) | (rw [h0, h9]; rfl) | (simp [*]; done) | (simp_all; done)), O⟩
  · go_wp2_with fail
    refine (kidsAre_any m p kk kn kc q _ 1 _ (classF [8]) _ hn (hk.onw (O.trans (Onw.alloc _ _))) (by exact lay1 _ _ 8)).mono ?_
    rintro e w2 ⟨rfl, hb⟩
    replace hb := (Onw.alloc _ _).trans hb
    replace B := B.onw hb
    replace O := O.trans hb
    clear hb bc
    have bc := B.cell
    go_wp2_with fail
    go_ret
    exact ⟨ret_bool (by first | rfl | (rw [h0]; rfl) | (rw [h0, h1]; rfl) | (rw [h0, h1, h2]; rfl) | (rw [h0, h1, h2, h3]; rfl) | (rw [h0, h9]; rfl) | (simp [*]; done) | (simp_all; done)), O⟩

set_option maxRecDepth 100000 in
set_option maxHeartbeats 4000000 in
theorem nf_pair (H : FitsAt m kk kn kc q w) :
    Calls Try.prog 29 #[.iface 120 (.agg #[.int .i64 p, .int .i64 m.kind, .int .i64 m.frm, .int .i64 m.tto, .int .i64 m.line, .int .i64 m.op, .int .i64 m.num, .float .f64 m.flt, .string m.text, .slice m.na m.nn m.nc, .slice m.ka m.nk m.kc, .slice kk kn kc])] w fun e w' => e = .returned (.bool (usesP m.toPD false false false false false && (kidsR [8, 8] kn q))) ∧ Onw w w' := by
  obtain ⟨hn, hk, hkc, hnn, hz, htx, hm⟩ := H
  have ⟨O, B⟩ := st1 w 120 #[.int .i64 p, .int .i64 m.kind, .int .i64 m.frm, .int .i64 m.tto, .int .i64 m.line, .int .i64 m.op, .int .i64 m.num, .float .f64 m.flt, .string m.text, .slice m.na m.nn m.nc, .slice m.ka m.nk m.kc, .slice kk kn kc]
  have bc := B.cell
  have a_item := as_item_no (t := 120) (by decide)
  have a_pair := as_pair_yes
  go_enter Try.func29, Try.ntmps29
  go_wp2_with fail
  refine (usesOnly_any m p kk kn kc 0 _ false false false false false (by simp)).mono ?_
  rintro e w1 ⟨rfl, hb⟩
  replace B := B.onw hb
  replace O := O.trans hb
  clear hb bc
  have bc := B.cell
  cases h0 : usesP m.toPD false false false false false
  · go_wp2_with fail
    go_ret
    exact ⟨ret_bool (by first | rfl | (rw [h0]; rfl) | (rw [h0, h1]; rfl) | (rw [h0, h1, h2]; rfl) | (rw [h0, h1, h2, h3]; rfl) | (rw [h0, h9]; rfl) | (simp [*]; done) | (simp_all; done)), O⟩
  · go_wp2_with fail
    refine (kidsAre_any m p kk kn kc q _ 2 _ (classF [8, 8]) _ hn (hk.onw (O.trans (Onw.alloc _ _))) (by exact lay2 _ _ 8 8)).mono ?_
    rintro e w2 ⟨rfl, hb⟩
    replace hb := (Onw.alloc _ _).trans hb
    replace B := B.onw hb
    replace O := O.trans hb
    clear hb bc
    have bc := B.cell
    go_wp2_with fail
    go_ret
    exact ⟨ret_bool (by first | rfl | (rw [h0]; rfl) | (rw [h0, h1]; rfl) | (rw [h0, h1, h2]; rfl) | (rw [h0, h1, h2, h3]; rfl) | (rw [h0, h9]; rfl) | (simp [*]; done) | (simp_all; done)), O⟩

set_option maxRecDepth 100000 in
set_option maxHeartbeats 4000000 in
theorem nf_named (H : FitsAt m kk kn kc q w) :
    Calls Try.prog 29 #[.iface 121 (.agg #[.int .i64 p, .int .i64 m.kind, .int .i64 m.frm, .int .i64 m.tto, .int .i64 m.line, .int .i64 m.op, .int .i64 m.num, .float .f64 m.flt, .string m.text, .slice m.na m.nn m.nc, .slice m.ka m.nk m.kc, .slice kk kn kc])] w fun e w' => e = .returned (.bool (usesP m.toPD false false false true false && (nameB m.text && (kidsR [8] kn q)))) ∧ Onw w w' := by
  obtain ⟨hn, hk, hkc, hnn, hz, htx, hm⟩ := H
  have ⟨O, B⟩ := st1 w 121 #[.int .i64 p, .int .i64 m.kind, .int .i64 m.frm, .int .i64 m.tto, .int .i64 m.line, .int .i64 m.op, .int .i64 m.num, .float .f64 m.flt, .string m.text, .slice m.na m.nn m.nc, .slice m.ka m.nk m.kc, .slice kk kn kc]
  have bc := B.cell
  have a_item := as_item_no (t := 121) (by decide)
  have a_pair := as_pair_no (t := 121) (by decide)
  have a_named := as_named_yes
  go_enter Try.func29, Try.ntmps29
  go_wp2_with fail
  refine (usesOnly_any m p kk kn kc 8 _ false false false true false (by simp)).mono ?_
  rintro e w1 ⟨rfl, hb⟩
  replace B := B.onw hb
  replace O := O.trans hb
  clear hb bc
  have bc := B.cell
  cases h0 : usesP m.toPD false false false true false
  · go_wp2_with fail
    go_ret
    exact ⟨ret_bool (by first | rfl | (rw [h0]; rfl) | (rw [h0, h1]; rfl) | (rw [h0, h1, h2]; rfl) | (rw [h0, h1, h2, h3]; rfl) | (rw [h0, h9]; rfl) | (simp [*]; done) | (simp_all; done)), O⟩
  · go_wp2_with fail
    refine (isName_any _ _ htx).mono ?_
    rintro e v1 ⟨rfl, rfl⟩
    cases h1 : nameB m.text
    · go_wp2_with fail
      go_ret
      exact ⟨ret_bool (by first | rfl | (rw [h0]; rfl) | (rw [h0, h1]; rfl) | (rw [h0, h1, h2]; rfl) | (rw [h0, h1, h2, h3]; rfl) | (rw [h0, h9]; rfl) | (simp [*]; done) | (simp_all; done)), O⟩
    · go_wp2_with fail
      refine (kidsAre_any m p kk kn kc q _ 1 _ (classF [8]) _ hn (hk.onw (O.trans (Onw.alloc _ _))) (by exact lay1 _ _ 8)).mono ?_
      rintro e w3 ⟨rfl, hb⟩
      replace hb := (Onw.alloc _ _).trans hb
      replace B := B.onw hb
      replace O := O.trans hb
      clear hb bc
      have bc := B.cell
      go_wp2_with fail
      go_ret
      exact ⟨ret_bool (by first | rfl | (rw [h0]; rfl) | (rw [h0, h1]; rfl) | (rw [h0, h1, h2]; rfl) | (rw [h0, h1, h2, h3]; rfl) | (rw [h0, h9]; rfl) | (simp [*]; done) | (simp_all; done)), O⟩

end Go.Proofs.Ytnokgdgikdgaeaa
