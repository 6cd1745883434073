import Derived.Test.YtnokgdgikdgaeaaP07
namespace Go.Proofs.Ytnokgdgikdgaeaa
open Go.RowKit
attribute [local go_sem] run_store_float
variable (w : World) (np : Nat) (pm : Nat → PM) (pa : Option Addr) (pc : Nat) (frm tto line op num : Int) (flt : Nat) (text : ByteArray) (nn : Nat) (nm : Nat → ByteArray) (nk : Nat) (kd : Nat → Int) (na : Option Addr) (nc : Nat) (ka : Option Addr) (kc : Nat)

set_option maxRecDepth 100000 in
set_option maxHeartbeats 2000000 in
theorem ex30_no (hne : nk ≠ 1) (H : Prm w np pm pa pc ⟨⟨30, frm, tto, line, op, num, flt, text, nn, nm, nk, kd⟩, na, nc, ka, kc⟩) :
    Calls Try.prog 23 #[.agg #[.slice pa np pc], .agg #[.int .i64 30, .int .i64 frm, .int .i64 tto, .int .i64 line, .int .i64 op, .int .i64 num, .float .f64 flt, .string text, .slice na nn nc, .slice ka nk kc]] w fun e w' => e = .returned (.bool false) ∧ Onw w w' := by
  obtain ⟨hn, hk, hnn, htx, hr, hz, ht, hm⟩ := H
  dsimp only at hk hnn htx hr hz
  have T := Two.new w pa np pc 30 frm tto line op num flt text na nn nc ka nk kc
  have ob := Two.start w pa np pc 30 frm tto line op num flt text na nn nc ka nk kc
  go_enter Try.func23, Try.ntmps23
  go_wp2_with fail
  go_ret
  exact ⟨ret_bool (by first | rfl | exact beq_false_of_ne (by assumption) | exact beq_false_of_ne (by omega) | exact decide_eq_false (by omega) | (show _ = true; simp; done) | (show _ = true; simp; omega) | (show _ = false; simp; done) | (show _ = false; simp; omega)), ob⟩

set_option maxRecDepth 100000 in
set_option maxHeartbeats 2000000 in
theorem ex30_lo (h1 : op < 19) (H : Prm w np pm pa pc ⟨⟨30, frm, tto, line, op, num, flt, text, nn, nm, 1, kd⟩, na, nc, ka, kc⟩) :
    Calls Try.prog 23 #[.agg #[.slice pa np pc], .agg #[.int .i64 30, .int .i64 frm, .int .i64 tto, .int .i64 line, .int .i64 op, .int .i64 num, .float .f64 flt, .string text, .slice na nn nc, .slice ka 1 kc]] w fun e w' => e = .returned (.bool false) ∧ Onw w w' := by
  obtain ⟨hn, hk, hnn, htx, hr, hz, ht, hm⟩ := H
  dsimp only at hk hnn htx hr hz
  have T := Two.new w pa np pc 30 frm tto line op num flt text na nn nc ka 1 kc
  have ob := Two.start w pa np pc 30 frm tto line op num flt text na nn nc ka 1 kc
  go_enter Try.func23, Try.ntmps23
  go_wp2_with fail
  refine (l6exprs_any ⟨np, pm, pa, pc⟩ ⟨⟨30, frm, tto, line, op, num, flt, text, nn, nm, 1, kd⟩, na, nc, ka, kc⟩ 0 1 _ hn (by omega) (by dsimp only; omega) hk hr (TM.At.onw ob ht) (hm.2.onw ob)).mono ?_
  rintro e w1 ⟨rfl, O1⟩
  replace T := T.onw O1
  replace ob := ob.trans O1
  clear O1
  obtain ⟨q0, hq0⟩ : ∃ q, exprsP (pdOf pm) (⟨30, frm, tto, line, op, num, flt, text, nn, nm, 1, kd⟩ : PD) 0 1 = q := ⟨_, rfl⟩
  rw [hq0]
  have x0 : Hid _ := hq0
  clear hq0
  cases q0
  ·
    obtain ⟨t0, c0, c1, c2, c3, c4, c5, c6, c7, c8, c9⟩ := T
    go_wp2_with fail
    go_ret
    exact ⟨ret_bool (by first | rfl | exact beq_false_of_ne (by assumption) | exact beq_false_of_ne (by omega) | exact decide_eq_false (by omega) | (show _ = true; simp; done) | (show _ = true; simp; omega) | (show _ = false; simp; done) | (show _ = false; simp; omega)), ob⟩
  ·
    have ⟨t0, c0, c1, c2, c3, c4, c5, c6, c7, c8, c9⟩ := T
    go_wp2_with fail
    clear t0 c0 c1 c2 c3 c4 c5 c6 c7 c8 c9
    refine (l6bare_any ⟨⟨30, frm, tto, line, op, num, flt, text, nn, nm, 1, kd⟩, na, nc, ka, kc⟩ _ true false false false (by decide)).mono ?_
    rintro e w1 ⟨rfl, O1⟩
    replace T := T.onw O1
    replace ob := ob.trans O1
    clear O1
    obtain ⟨q1, hq1⟩ : ∃ q, bareP (⟨30, frm, tto, line, op, num, flt, text, nn, nm, 1, kd⟩ : PD) true false false false = q := ⟨_, rfl⟩
    rw [hq1]
    have x1 : Hid _ := hq1
    clear hq1
    cases q1
    ·
      obtain ⟨t0, c0, c1, c2, c3, c4, c5, c6, c7, c8, c9⟩ := T
      go_wp2_with fail
      go_ret
      exact ⟨ret_bool (by first | rfl | exact beq_false_of_ne (by assumption) | exact beq_false_of_ne (by omega) | exact decide_eq_false (by omega) | (show _ = true; simp; done) | (show _ = true; simp; omega) | (show _ = false; simp; done) | (show _ = false; simp; omega)), ob⟩
    ·
      have ⟨t0, c0, c1, c2, c3, c4, c5, c6, c7, c8, c9⟩ := T
      go_wp2_with fail
      clear t0 c0 c1 c2 c3 c4 c5 c6 c7 c8 c9
      go_ret
      exact ⟨ret_bool (by first | rfl | exact beq_false_of_ne (by assumption) | exact beq_false_of_ne (by omega) | exact decide_eq_false (by omega) | (show _ = true; simp; done) | (show _ = true; simp; omega) | (show _ = false; simp; done) | (show _ = false; simp; omega)), ob⟩

set_option maxRecDepth 100000 in
set_option maxHeartbeats 2000000 in
theorem ex30_hi (h1 : 19 ≤ op) (h2 : 22 < op) (H : Prm w np pm pa pc ⟨⟨30, frm, tto, line, op, num, flt, text, nn, nm, 1, kd⟩, na, nc, ka, kc⟩) :
    Calls Try.prog 23 #[.agg #[.slice pa np pc], .agg #[.int .i64 30, .int .i64 frm, .int .i64 tto, .int .i64 line, .int .i64 op, .int .i64 num, .float .f64 flt, .string text, .slice na nn nc, .slice ka 1 kc]] w fun e w' => e = .returned (.bool false) ∧ Onw w w' := by
  obtain ⟨hn, hk, hnn, htx, hr, hz, ht, hm⟩ := H
  dsimp only at hk hnn htx hr hz
  have T := Two.new w pa np pc 30 frm tto line op num flt text na nn nc ka 1 kc
  have ob := Two.start w pa np pc 30 frm tto line op num flt text na nn nc ka 1 kc
  go_enter Try.func23, Try.ntmps23
  go_wp2_with fail
  refine (l6exprs_any ⟨np, pm, pa, pc⟩ ⟨⟨30, frm, tto, line, op, num, flt, text, nn, nm, 1, kd⟩, na, nc, ka, kc⟩ 0 1 _ hn (by omega) (by dsimp only; omega) hk hr (TM.At.onw ob ht) (hm.2.onw ob)).mono ?_
  rintro e w1 ⟨rfl, O1⟩
  replace T := T.onw O1
  replace ob := ob.trans O1
  clear O1
  obtain ⟨q0, hq0⟩ : ∃ q, exprsP (pdOf pm) (⟨30, frm, tto, line, op, num, flt, text, nn, nm, 1, kd⟩ : PD) 0 1 = q := ⟨_, rfl⟩
  rw [hq0]
  have x0 : Hid _ := hq0
  clear hq0
  cases q0
  ·
    obtain ⟨t0, c0, c1, c2, c3, c4, c5, c6, c7, c8, c9⟩ := T
    go_wp2_with fail
    go_ret
    exact ⟨ret_bool (by first | rfl | exact beq_false_of_ne (by assumption) | exact beq_false_of_ne (by omega) | exact decide_eq_false (by omega) | (show _ = true; simp; done) | (show _ = true; simp; omega) | (show _ = false; simp; done) | (show _ = false; simp; omega)), ob⟩
  ·
    have ⟨t0, c0, c1, c2, c3, c4, c5, c6, c7, c8, c9⟩ := T
    go_wp2_with fail
    clear t0 c0 c1 c2 c3 c4 c5 c6 c7 c8 c9
    refine (l6bare_any ⟨⟨30, frm, tto, line, op, num, flt, text, nn, nm, 1, kd⟩, na, nc, ka, kc⟩ _ true false false false (by decide)).mono ?_
    rintro e w1 ⟨rfl, O1⟩
    replace T := T.onw O1
    replace ob := ob.trans O1
    clear O1
    obtain ⟨q1, hq1⟩ : ∃ q, bareP (⟨30, frm, tto, line, op, num, flt, text, nn, nm, 1, kd⟩ : PD) true false false false = q := ⟨_, rfl⟩
    rw [hq1]
    have x1 : Hid _ := hq1
    clear hq1
    cases q1
    ·
      obtain ⟨t0, c0, c1, c2, c3, c4, c5, c6, c7, c8, c9⟩ := T
      go_wp2_with fail
      go_ret
      exact ⟨ret_bool (by first | rfl | exact beq_false_of_ne (by assumption) | exact beq_false_of_ne (by omega) | exact decide_eq_false (by omega) | (show _ = true; simp; done) | (show _ = true; simp; omega) | (show _ = false; simp; done) | (show _ = false; simp; omega)), ob⟩
    ·
      have ⟨t0, c0, c1, c2, c3, c4, c5, c6, c7, c8, c9⟩ := T
      go_wp2_with fail
      clear t0 c0 c1 c2 c3 c4 c5 c6 c7 c8 c9
      go_ret
      exact ⟨ret_bool (by first | rfl | exact beq_false_of_ne (by assumption) | exact beq_false_of_ne (by omega) | exact decide_eq_false (by omega) | (show _ = true; simp; done) | (show _ = true; simp; omega) | (show _ = false; simp; done) | (show _ = false; simp; omega)), ob⟩

set_option maxRecDepth 100000 in
set_option maxHeartbeats 2000000 in
theorem ex31_2 (h1 : 1 ≤ op) (h2 : op ≤ 18) (H : Prm w np pm pa pc ⟨⟨31, frm, tto, line, op, num, flt, text, nn, nm, 2, kd⟩, na, nc, ka, kc⟩) :
    Calls Try.prog 23 #[.agg #[.slice pa np pc], .agg #[.int .i64 31, .int .i64 frm, .int .i64 tto, .int .i64 line, .int .i64 op, .int .i64 num, .float .f64 flt, .string text, .slice na nn nc, .slice ka 2 kc]] w fun e w' => e = .returned (.bool (((exprsP (pdOf pm) (⟨31, frm, tto, line, op, num, flt, text, nn, nm, 2, kd⟩ : PD) 0 2) && bareP (⟨31, frm, tto, line, op, num, flt, text, nn, nm, 2, kd⟩ : PD) true false false false))) ∧ Onw w w' := by
  obtain ⟨hn, hk, hnn, htx, hr, hz, ht, hm⟩ := H
  dsimp only at hk hnn htx hr hz
  have T := Two.new w pa np pc 31 frm tto line op num flt text na nn nc ka 2 kc
  have ob := Two.start w pa np pc 31 frm tto line op num flt text na nn nc ka 2 kc
  go_enter Try.func23, Try.ntmps23
  go_wp2_with fail
  refine (l6exprs_any ⟨np, pm, pa, pc⟩ ⟨⟨31, frm, tto, line, op, num, flt, text, nn, nm, 2, kd⟩, na, nc, ka, kc⟩ 0 2 _ hn (by omega) (by dsimp only; omega) hk hr (TM.At.onw ob ht) (hm.2.onw ob)).mono ?_
  rintro e w1 ⟨rfl, O1⟩
  replace T := T.onw O1
  replace ob := ob.trans O1
  clear O1
  obtain ⟨q0, hq0⟩ : ∃ q, exprsP (pdOf pm) (⟨31, frm, tto, line, op, num, flt, text, nn, nm, 2, kd⟩ : PD) 0 2 = q := ⟨_, rfl⟩
  rw [hq0]
  have x0 : Hid _ := hq0
  clear hq0
  cases q0
  ·
    obtain ⟨t0, c0, c1, c2, c3, c4, c5, c6, c7, c8, c9⟩ := T
    go_wp2_with fail
    go_ret
    exact ⟨ret_bool (by rw [x0.out] <;> first | rfl | exact beq_false_of_ne (by assumption) | exact beq_false_of_ne (by omega) | exact decide_eq_false (by omega) | (show _ = true; simp; done) | (show _ = true; simp; omega) | (show _ = false; simp; done) | (show _ = false; simp; omega)), ob⟩
  ·
    have ⟨t0, c0, c1, c2, c3, c4, c5, c6, c7, c8, c9⟩ := T
    go_wp2_with fail
    clear t0 c0 c1 c2 c3 c4 c5 c6 c7 c8 c9
    refine (l6bare_any ⟨⟨31, frm, tto, line, op, num, flt, text, nn, nm, 2, kd⟩, na, nc, ka, kc⟩ _ true false false false (by decide)).mono ?_
    rintro e w1 ⟨rfl, O1⟩
    replace T := T.onw O1
    replace ob := ob.trans O1
    clear O1
    obtain ⟨q1, hq1⟩ : ∃ q, bareP (⟨31, frm, tto, line, op, num, flt, text, nn, nm, 2, kd⟩ : PD) true false false false = q := ⟨_, rfl⟩
    rw [hq1]
    have x1 : Hid _ := hq1
    clear hq1
    cases q1
    ·
      obtain ⟨t0, c0, c1, c2, c3, c4, c5, c6, c7, c8, c9⟩ := T
      go_wp2_with fail
      go_ret
      exact ⟨ret_bool (by rw [x0.out, x1.out] <;> first | rfl | exact beq_false_of_ne (by assumption) | exact beq_false_of_ne (by omega) | exact decide_eq_false (by omega) | (show _ = true; simp; done) | (show _ = true; simp; omega) | (show _ = false; simp; done) | (show _ = false; simp; omega)), ob⟩
    ·
      have ⟨t0, c0, c1, c2, c3, c4, c5, c6, c7, c8, c9⟩ := T
      go_wp2_with fail
      clear t0 c0 c1 c2 c3 c4 c5 c6 c7 c8 c9
      go_ret
      exact ⟨ret_bool (by rw [x0.out, x1.out] <;> first | rfl | exact beq_false_of_ne (by assumption) | exact beq_false_of_ne (by omega) | exact decide_eq_false (by omega) | (show _ = true; simp; done) | (show _ = true; simp; omega) | (show _ = false; simp; done) | (show _ = false; simp; omega)), ob⟩

set_option maxRecDepth 100000 in
set_option maxHeartbeats 2000000 in
theorem ex31_no (hne : nk ≠ 2) (H : Prm w np pm pa pc ⟨⟨31, frm, tto, line, op, num, flt, text, nn, nm, nk, kd⟩, na, nc, ka, kc⟩) :
    Calls Try.prog 23 #[.agg #[.slice pa np pc], .agg #[.int .i64 31, .int .i64 frm, .int .i64 tto, .int .i64 line, .int .i64 op, .int .i64 num, .float .f64 flt, .string text, .slice na nn nc, .slice ka nk kc]] w fun e w' => e = .returned (.bool false) ∧ Onw w w' := by
  obtain ⟨hn, hk, hnn, htx, hr, hz, ht, hm⟩ := H
  dsimp only at hk hnn htx hr hz
  have T := Two.new w pa np pc 31 frm tto line op num flt text na nn nc ka nk kc
  have ob := Two.start w pa np pc 31 frm tto line op num flt text na nn nc ka nk kc
  go_enter Try.func23, Try.ntmps23
  go_wp2_with fail
  go_ret
  exact ⟨ret_bool (by first | rfl | exact beq_false_of_ne (by assumption) | exact beq_false_of_ne (by omega) | exact decide_eq_false (by omega) | (show _ = true; simp; done) | (show _ = true; simp; omega) | (show _ = false; simp; done) | (show _ = false; simp; omega)), ob⟩

set_option maxRecDepth 100000 in
set_option maxHeartbeats 2000000 in
theorem ex31_lo (h1 : op < 1) (H : Prm w np pm pa pc ⟨⟨31, frm, tto, line, op, num, flt, text, nn, nm, 2, kd⟩, na, nc, ka, kc⟩) :
    Calls Try.prog 23 #[.agg #[.slice pa np pc], .agg #[.int .i64 31, .int .i64 frm, .int .i64 tto, .int .i64 line, .int .i64 op, .int .i64 num, .float .f64 flt, .string text, .slice na nn nc, .slice ka 2 kc]] w fun e w' => e = .returned (.bool false) ∧ Onw w w' := by
  obtain ⟨hn, hk, hnn, htx, hr, hz, ht, hm⟩ := H
  dsimp only at hk hnn htx hr hz
  have T := Two.new w pa np pc 31 frm tto line op num flt text na nn nc ka 2 kc
  have ob := Two.start w pa np pc 31 frm tto line op num flt text na nn nc ka 2 kc
  go_enter Try.func23, Try.ntmps23
  go_wp2_with fail
  refine (l6exprs_any ⟨np, pm, pa, pc⟩ ⟨⟨31, frm, tto, line, op, num, flt, text, nn, nm, 2, kd⟩, na, nc, ka, kc⟩ 0 2 _ hn (by omega) (by dsimp only; omega) hk hr (TM.At.onw ob ht) (hm.2.onw ob)).mono ?_
  rintro e w1 ⟨rfl, O1⟩
  replace T := T.onw O1
  replace ob := ob.trans O1
  clear O1
  obtain ⟨q0, hq0⟩ : ∃ q, exprsP (pdOf pm) (⟨31, frm, tto, line, op, num, flt, text, nn, nm, 2, kd⟩ : PD) 0 2 = q := ⟨_, rfl⟩
  rw [hq0]
  have x0 : Hid _ := hq0
  clear hq0
  cases q0
  ·
    obtain ⟨t0, c0, c1, c2, c3, c4, c5, c6, c7, c8, c9⟩ := T
    go_wp2_with fail
    go_ret
    exact ⟨ret_bool (by first | rfl | exact beq_false_of_ne (by assumption) | exact beq_false_of_ne (by omega) | exact decide_eq_false (by omega) | (show _ = true; simp; done) | (show _ = true; simp; omega) | (show _ = false; simp; done) | (show _ = false; simp; omega)), ob⟩
  ·
    have ⟨t0, c0, c1, c2, c3, c4, c5, c6, c7, c8, c9⟩ := T
    go_wp2_with fail
    clear t0 c0 c1 c2 c3 c4 c5 c6 c7 c8 c9
    refine (l6bare_any ⟨⟨31, frm, tto, line, op, num, flt, text, nn, nm, 2, kd⟩, na, nc, ka, kc⟩ _ true false false false (by decide)).mono ?_
    rintro e w1 ⟨rfl, O1⟩
    replace T := T.onw O1
    replace ob := ob.trans O1
    clear O1
    obtain ⟨q1, hq1⟩ : ∃ q, bareP (⟨31, frm, tto, line, op, num, flt, text, nn, nm, 2, kd⟩ : PD) true false false false = q := ⟨_, rfl⟩
    rw [hq1]
    have x1 : Hid _ := hq1
    clear hq1
    cases q1
    ·
      obtain ⟨t0, c0, c1, c2, c3, c4, c5, c6, c7, c8, c9⟩ := T
      go_wp2_with fail
      go_ret
      exact ⟨ret_bool (by first | rfl | exact beq_false_of_ne (by assumption) | exact beq_false_of_ne (by omega) | exact decide_eq_false (by omega) | (show _ = true; simp; done) | (show _ = true; simp; omega) | (show _ = false; simp; done) | (show _ = false; simp; omega)), ob⟩
    ·
      have ⟨t0, c0, c1, c2, c3, c4, c5, c6, c7, c8, c9⟩ := T
      go_wp2_with fail
      clear t0 c0 c1 c2 c3 c4 c5 c6 c7 c8 c9
      go_ret
      exact ⟨ret_bool (by first | rfl | exact beq_false_of_ne (by assumption) | exact beq_false_of_ne (by omega) | exact decide_eq_false (by omega) | (show _ = true; simp; done) | (show _ = true; simp; omega) | (show _ = false; simp; done) | (show _ = false; simp; omega)), ob⟩
end Go.Proofs.Ytnokgdgikdgaeaa

namespace Go.Proofs.Ytnokgdgikdgaeaa
open Go.RowKit
attribute [local go_sem] run_store_float
variable (w : World) (np : Nat) (pm : Nat → PM) (pa : Option Addr) (pc : Nat) (frm tto line op num : Int) (flt : Nat) (text : ByteArray) (nn : Nat) (nm : Nat → ByteArray) (nk : Nat) (kd : Nat → Int) (na : Option Addr) (nc : Nat) (ka : Option Addr) (kc : Nat)

set_option maxRecDepth 100000 in
set_option maxHeartbeats 2000000 in
theorem ex31_hi (h1 : 1 ≤ op) (h2 : 18 < op) (H : Prm w np pm pa pc ⟨⟨31, frm, tto, line, op, num, flt, text, nn, nm, 2, kd⟩, na, nc, ka, kc⟩) :
    Calls Try.prog 23 #[.agg #[.slice pa np pc], .agg #[.int .i64 31, .int .i64 frm, .int .i64 tto, .int .i64 line, .int .i64 op, .int .i64 num, .float .f64 flt, .string text, .slice na nn nc, .slice ka 2 kc]] w fun e w' => e = .returned (.bool false) ∧ Onw w w' := by
  obtain ⟨hn, hk, hnn, htx, hr, hz, ht, hm⟩ := H
  dsimp only at hk hnn htx hr hz
  have T := Two.new w pa np pc 31 frm tto line op num flt text na nn nc ka 2 kc
  have ob := Two.start w pa np pc 31 frm tto line op num flt text na nn nc ka 2 kc
  go_enter Try.func23, Try.ntmps23
  go_wp2_with fail
  refine (l6exprs_any ⟨np, pm, pa, pc⟩ ⟨⟨31, frm, tto, line, op, num, flt, text, nn, nm, 2, kd⟩, na, nc, ka, kc⟩ 0 2 _ hn (by omega) (by dsimp only; omega) hk hr (TM.At.onw ob ht) (hm.2.onw ob)).mono ?_
  rintro e w1 ⟨rfl, O1⟩
  replace T := T.onw O1
  replace ob := ob.trans O1
  clear O1
  obtain ⟨q0, hq0⟩ : ∃ q, exprsP (pdOf pm) (⟨31, frm, tto, line, op, num, flt, text, nn, nm, 2, kd⟩ : PD) 0 2 = q := ⟨_, rfl⟩
  rw [hq0]
  have x0 : Hid _ := hq0
  clear hq0
  cases q0
  ·
    obtain ⟨t0, c0, c1, c2, c3, c4, c5, c6, c7, c8, c9⟩ := T
    go_wp2_with fail
    go_ret
    exact ⟨ret_bool (by first | rfl | exact beq_false_of_ne (by assumption) | exact beq_false_of_ne (by omega) | exact decide_eq_false (by omega) | (show _ = true; simp; done) | (show _ = true; simp; omega) | (show _ = false; simp; done) | (show _ = false; simp; omega)), ob⟩
  ·
    have ⟨t0, c0, c1, c2, c3, c4, c5, c6, c7, c8, c9⟩ := T
    go_wp2_with fail
    clear t0 c0 c1 c2 c3 c4 c5 c6 c7 c8 c9
    refine (l6bare_any ⟨⟨31, frm, tto, line, op, num, flt, text, nn, nm, 2, kd⟩, na, nc, ka, kc⟩ _ true false false false (by decide)).mono ?_
    rintro e w1 ⟨rfl, O1⟩
    replace T := T.onw O1
    replace ob := ob.trans O1
    clear O1
    obtain ⟨q1, hq1⟩ : ∃ q, bareP (⟨31, frm, tto, line, op, num, flt, text, nn, nm, 2, kd⟩ : PD) true false false false = q := ⟨_, rfl⟩
    rw [hq1]
    have x1 : Hid _ := hq1
    clear hq1
    cases q1
    ·
      obtain ⟨t0, c0, c1, c2, c3, c4, c5, c6, c7, c8, c9⟩ := T
      go_wp2_with fail
      go_ret
      exact ⟨ret_bool (by first | rfl | exact beq_false_of_ne (by assumption) | exact beq_false_of_ne (by omega) | exact decide_eq_false (by omega) | (show _ = true; simp; done) | (show _ = true; simp; omega) | (show _ = false; simp; done) | (show _ = false; simp; omega)), ob⟩
    ·
      have ⟨t0, c0, c1, c2, c3, c4, c5, c6, c7, c8, c9⟩ := T
      go_wp2_with fail
      clear t0 c0 c1 c2 c3 c4 c5 c6 c7 c8 c9
      go_ret
      exact ⟨ret_bool (by first | rfl | exact beq_false_of_ne (by assumption) | exact beq_false_of_ne (by omega) | exact decide_eq_false (by omega) | (show _ = true; simp; done) | (show _ = true; simp; omega) | (show _ = false; simp; done) | (show _ = false; simp; omega)), ob⟩

set_option maxRecDepth 100000 in
set_option maxHeartbeats 2000000 in
theorem ex33_1 (H : Prm w np pm pa pc ⟨⟨33, frm, tto, line, op, num, flt, text, nn, nm, 1, kd⟩, na, nc, ka, kc⟩) :
    Calls Try.prog 23 #[.agg #[.slice pa np pc], .agg #[.int .i64 33, .int .i64 frm, .int .i64 tto, .int .i64 line, .int .i64 op, .int .i64 num, .float .f64 flt, .string text, .slice na nn nc, .slice ka 1 kc]] w fun e w' => e = .returned (.bool (((exprsP (pdOf pm) (⟨33, frm, tto, line, op, num, flt, text, nn, nm, 1, kd⟩ : PD) 0 1) && ((!(kidP (pdOf pm) (⟨33, frm, tto, line, op, num, flt, text, nn, nm, 1, kd⟩ : PD) 0 == 27)) && ((bareP (⟨33, frm, tto, line, op, num, flt, text, nn, nm, 1, kd⟩ : PD) false false true false) && nameB text))))) ∧ Onw w w' := by
  obtain ⟨hn, hk, hnn, htx, hr, hz, ht, hm⟩ := H
  dsimp only at hk hnn htx hr hz
  have T := Two.new w pa np pc 33 frm tto line op num flt text na nn nc ka 1 kc
  have ob := Two.start w pa np pc 33 frm tto line op num flt text na nn nc ka 1 kc
  go_enter Try.func23, Try.ntmps23
  go_wp2_with fail
  refine (l6exprs_any ⟨np, pm, pa, pc⟩ ⟨⟨33, frm, tto, line, op, num, flt, text, nn, nm, 1, kd⟩, na, nc, ka, kc⟩ 0 1 _ hn (by omega) (by dsimp only; omega) hk hr (TM.At.onw ob ht) (hm.2.onw ob)).mono ?_
  rintro e w1 ⟨rfl, O1⟩
  replace T := T.onw O1
  replace ob := ob.trans O1
  clear O1
  obtain ⟨q0, hq0⟩ : ∃ q, exprsP (pdOf pm) (⟨33, frm, tto, line, op, num, flt, text, nn, nm, 1, kd⟩ : PD) 0 1 = q := ⟨_, rfl⟩
  rw [hq0]
  have x0 : Hid _ := hq0
  clear hq0
  cases q0
  ·
    obtain ⟨t0, c0, c1, c2, c3, c4, c5, c6, c7, c8, c9⟩ := T
    go_wp2_with fail
    go_ret
    exact ⟨ret_bool (by rw [x0.out] <;> first | rfl | exact beq_false_of_ne (by assumption) | exact beq_false_of_ne (by omega) | exact decide_eq_false (by omega) | (show _ = true; simp; done) | (show _ = true; simp; omega) | (show _ = false; simp; done) | (show _ = false; simp; omega)), ob⟩
  ·
    have ⟨t0, c0, c1, c2, c3, c4, c5, c6, c7, c8, c9⟩ := T
    go_wp2_with fail
    clear t0 c0 c1 c2 c3 c4 c5 c6 c7 c8 c9
    refine (l6kid_any ⟨np, pm, pa, pc⟩ ⟨⟨33, frm, tto, line, op, num, flt, text, nn, nm, 1, kd⟩, na, nc, ka, kc⟩ 0 _ hn (by dsimp only; omega) hk (hr 0 (by omega)).1 (hr 0 (by omega)).2 (TM.At.onw ob ht) (hm.2.onw ob)).mono ?_
    rintro e w1 ⟨rfl, O1⟩
    replace T := T.onw O1
    replace ob := ob.trans O1
    clear O1
    obtain ⟨q1, hq1⟩ : ∃ q, kidP (pdOf pm) (⟨33, frm, tto, line, op, num, flt, text, nn, nm, 1, kd⟩ : PD) 0 = q := ⟨_, rfl⟩
    rw [hq1]
    by_cases y1 : q1 = 27
    · have x1 : Hid ((kidP (pdOf pm) (⟨33, frm, tto, line, op, num, flt, text, nn, nm, 1, kd⟩ : PD) 0 == 27) = true) := by show _ = _; rw [hq1, y1]; rfl
      subst y1; clear hq1
      obtain ⟨t0, c0, c1, c2, c3, c4, c5, c6, c7, c8, c9⟩ := T
      go_wp2_with fail
      go_ret
      exact ⟨ret_bool (by rw [x0.out, x1.out] <;> first | rfl | exact beq_false_of_ne (by assumption) | exact beq_false_of_ne (by omega) | exact decide_eq_false (by omega) | (show _ = true; simp; done) | (show _ = true; simp; omega) | (show _ = false; simp; done) | (show _ = false; simp; omega)), ob⟩
    · have x1 : Hid ((kidP (pdOf pm) (⟨33, frm, tto, line, op, num, flt, text, nn, nm, 1, kd⟩ : PD) 0 == 27) = false) := by show _ = _; rw [hq1]; exact beq_false_of_ne y1
      clear hq1
      have ⟨t0, c0, c1, c2, c3, c4, c5, c6, c7, c8, c9⟩ := T
      go_wp2_with fail
      clear t0 c0 c1 c2 c3 c4 c5 c6 c7 c8 c9
      refine (l6bare_any ⟨⟨33, frm, tto, line, op, num, flt, text, nn, nm, 1, kd⟩, na, nc, ka, kc⟩ _ false false true false (by decide)).mono ?_
      rintro e w1 ⟨rfl, O1⟩
      replace T := T.onw O1
      replace ob := ob.trans O1
      clear O1
      obtain ⟨q2, hq2⟩ : ∃ q, bareP (⟨33, frm, tto, line, op, num, flt, text, nn, nm, 1, kd⟩ : PD) false false true false = q := ⟨_, rfl⟩
      rw [hq2]
      have x2 : Hid _ := hq2
      clear hq2
      cases q2
      ·
        obtain ⟨t0, c0, c1, c2, c3, c4, c5, c6, c7, c8, c9⟩ := T
        go_wp2_with fail
        go_ret
        exact ⟨ret_bool (by rw [x0.out, x1.out, x2.out] <;> first | rfl | exact beq_false_of_ne (by assumption) | exact beq_false_of_ne (by omega) | exact decide_eq_false (by omega) | (show _ = true; simp; done) | (show _ = true; simp; omega) | (show _ = false; simp; done) | (show _ = false; simp; omega)), ob⟩
      ·
        have ⟨t0, c0, c1, c2, c3, c4, c5, c6, c7, c8, c9⟩ := T
        go_wp2_with fail
        clear t0 c0 c1 c2 c3 c4 c5 c6 c7 c8 c9
        refine (l6nameok_any text _ htx).mono ?_
        rintro e w1 ⟨rfl, O1⟩
        replace T := T.onw O1
        replace ob := ob.trans O1
        clear O1
        obtain ⟨q3, hq3⟩ : ∃ q, nameB text = q := ⟨_, rfl⟩
        rw [hq3]
        have x3 : Hid _ := hq3
        clear hq3
        cases q3
        ·
          obtain ⟨t0, c0, c1, c2, c3, c4, c5, c6, c7, c8, c9⟩ := T
          go_wp2_with fail
          go_ret
          exact ⟨ret_bool (by rw [x0.out, x1.out, x2.out, x3.out] <;> first | rfl | exact beq_false_of_ne (by assumption) | exact beq_false_of_ne (by omega) | exact decide_eq_false (by omega) | (show _ = true; simp; done) | (show _ = true; simp; omega) | (show _ = false; simp; done) | (show _ = false; simp; omega)), ob⟩
        ·
          have ⟨t0, c0, c1, c2, c3, c4, c5, c6, c7, c8, c9⟩ := T
          go_wp2_with fail
          clear t0 c0 c1 c2 c3 c4 c5 c6 c7 c8 c9
          go_ret
          exact ⟨ret_bool (by rw [x0.out, x1.out, x2.out, x3.out] <;> first | rfl | exact beq_false_of_ne (by assumption) | exact beq_false_of_ne (by omega) | exact decide_eq_false (by omega) | (show _ = true; simp; done) | (show _ = true; simp; omega) | (show _ = false; simp; done) | (show _ = false; simp; omega)), ob⟩

set_option maxRecDepth 100000 in
set_option maxHeartbeats 2000000 in
theorem ex33_no (hne : nk ≠ 1) (H : Prm w np pm pa pc ⟨⟨33, frm, tto, line, op, num, flt, text, nn, nm, nk, kd⟩, na, nc, ka, kc⟩) :
    Calls Try.prog 23 #[.agg #[.slice pa np pc], .agg #[.int .i64 33, .int .i64 frm, .int .i64 tto, .int .i64 line, .int .i64 op, .int .i64 num, .float .f64 flt, .string text, .slice na nn nc, .slice ka nk kc]] w fun e w' => e = .returned (.bool false) ∧ Onw w w' := by
  obtain ⟨hn, hk, hnn, htx, hr, hz, ht, hm⟩ := H
  dsimp only at hk hnn htx hr hz
  have T := Two.new w pa np pc 33 frm tto line op num flt text na nn nc ka nk kc
  have ob := Two.start w pa np pc 33 frm tto line op num flt text na nn nc ka nk kc
  go_enter Try.func23, Try.ntmps23
  go_wp2_with fail
  go_ret
  exact ⟨ret_bool (by first | rfl | exact beq_false_of_ne (by assumption) | exact beq_false_of_ne (by omega) | exact decide_eq_false (by omega) | (show _ = true; simp; done) | (show _ = true; simp; omega) | (show _ = false; simp; done) | (show _ = false; simp; omega)), ob⟩

set_option maxRecDepth 100000 in
set_option maxHeartbeats 2000000 in
theorem ex34_nk (hpos : 0 < nk) (H : Prm w np pm pa pc ⟨⟨34, frm, tto, line, op, num, flt, text, nn, nm, nk, kd⟩, na, nc, ka, kc⟩) :
    Calls Try.prog 23 #[.agg #[.slice pa np pc], .agg #[.int .i64 34, .int .i64 frm, .int .i64 tto, .int .i64 line, .int .i64 op, .int .i64 num, .float .f64 flt, .string text, .slice na nn nc, .slice ka nk kc]] w fun e w' => e = .returned (.bool (((exprsP (pdOf pm) (⟨34, frm, tto, line, op, num, flt, text, nn, nm, nk, kd⟩ : PD) 0 nk) && ((!(kidP (pdOf pm) (⟨34, frm, tto, line, op, num, flt, text, nn, nm, nk, kd⟩ : PD) 0 == 27)) && bareP (⟨34, frm, tto, line, op, num, flt, text, nn, nm, nk, kd⟩ : PD) false false false false)))) ∧ Onw w w' := by
  obtain ⟨hn, hk, hnn, htx, hr, hz, ht, hm⟩ := H
  dsimp only at hk hnn htx hr hz
  have T := Two.new w pa np pc 34 frm tto line op num flt text na nn nc ka nk kc
  have ob := Two.start w pa np pc 34 frm tto line op num flt text na nn nc ka nk kc
  go_enter Try.func23, Try.ntmps23
  go_wp2_with fail
  refine (l6exprs_any ⟨np, pm, pa, pc⟩ ⟨⟨34, frm, tto, line, op, num, flt, text, nn, nm, nk, kd⟩, na, nc, ka, kc⟩ 0 nk _ hn (by omega) (by dsimp only; omega) hk hr (TM.At.onw ob ht) (hm.2.onw ob)).mono ?_
  rintro e w1 ⟨rfl, O1⟩
  replace T := T.onw O1
  replace ob := ob.trans O1
  clear O1
  obtain ⟨q0, hq0⟩ : ∃ q, exprsP (pdOf pm) (⟨34, frm, tto, line, op, num, flt, text, nn, nm, nk, kd⟩ : PD) 0 nk = q := ⟨_, rfl⟩
  rw [hq0]
  have x0 : Hid _ := hq0
  clear hq0
  cases q0
  ·
    obtain ⟨t0, c0, c1, c2, c3, c4, c5, c6, c7, c8, c9⟩ := T
    go_wp2_with fail
    go_ret
    exact ⟨ret_bool (by rw [x0.out] <;> first | rfl | exact beq_false_of_ne (by assumption) | exact beq_false_of_ne (by omega) | exact decide_eq_false (by omega) | (show _ = true; simp; done) | (show _ = true; simp; omega) | (show _ = false; simp; done) | (show _ = false; simp; omega)), ob⟩
  ·
    have ⟨t0, c0, c1, c2, c3, c4, c5, c6, c7, c8, c9⟩ := T
    go_wp2_with fail
    clear t0 c0 c1 c2 c3 c4 c5 c6 c7 c8 c9
    refine (l6kid_any ⟨np, pm, pa, pc⟩ ⟨⟨34, frm, tto, line, op, num, flt, text, nn, nm, nk, kd⟩, na, nc, ka, kc⟩ 0 _ hn (by dsimp only; omega) hk (hr 0 (by omega)).1 (hr 0 (by omega)).2 (TM.At.onw ob ht) (hm.2.onw ob)).mono ?_
    rintro e w1 ⟨rfl, O1⟩
    replace T := T.onw O1
    replace ob := ob.trans O1
    clear O1
    obtain ⟨q1, hq1⟩ : ∃ q, kidP (pdOf pm) (⟨34, frm, tto, line, op, num, flt, text, nn, nm, nk, kd⟩ : PD) 0 = q := ⟨_, rfl⟩
    rw [hq1]
    by_cases y1 : q1 = 27
    · have x1 : Hid ((kidP (pdOf pm) (⟨34, frm, tto, line, op, num, flt, text, nn, nm, nk, kd⟩ : PD) 0 == 27) = true) := by show _ = _; rw [hq1, y1]; rfl
      subst y1; clear hq1
      obtain ⟨t0, c0, c1, c2, c3, c4, c5, c6, c7, c8, c9⟩ := T
      go_wp2_with fail
      go_ret
      exact ⟨ret_bool (by rw [x0.out, x1.out] <;> first | rfl | exact beq_false_of_ne (by assumption) | exact beq_false_of_ne (by omega) | exact decide_eq_false (by omega) | (show _ = true; simp; done) | (show _ = true; simp; omega) | (show _ = false; simp; done) | (show _ = false; simp; omega)), ob⟩
    · have x1 : Hid ((kidP (pdOf pm) (⟨34, frm, tto, line, op, num, flt, text, nn, nm, nk, kd⟩ : PD) 0 == 27) = false) := by show _ = _; rw [hq1]; exact beq_false_of_ne y1
      clear hq1
      have ⟨t0, c0, c1, c2, c3, c4, c5, c6, c7, c8, c9⟩ := T
      go_wp2_with fail
      clear t0 c0 c1 c2 c3 c4 c5 c6 c7 c8 c9
      refine (l6bare_any ⟨⟨34, frm, tto, line, op, num, flt, text, nn, nm, nk, kd⟩, na, nc, ka, kc⟩ _ false false false false (by decide)).mono ?_
      rintro e w1 ⟨rfl, O1⟩
      replace T := T.onw O1
      replace ob := ob.trans O1
      clear O1
      obtain ⟨q2, hq2⟩ : ∃ q, bareP (⟨34, frm, tto, line, op, num, flt, text, nn, nm, nk, kd⟩ : PD) false false false false = q := ⟨_, rfl⟩
      rw [hq2]
      have x2 : Hid _ := hq2
      clear hq2
      cases q2
      ·
        obtain ⟨t0, c0, c1, c2, c3, c4, c5, c6, c7, c8, c9⟩ := T
        go_wp2_with fail
        go_ret
        exact ⟨ret_bool (by rw [x0.out, x1.out, x2.out] <;> first | rfl | exact beq_false_of_ne (by assumption) | exact beq_false_of_ne (by omega) | exact decide_eq_false (by omega) | (show _ = true; simp; done) | (show _ = true; simp; omega) | (show _ = false; simp; done) | (show _ = false; simp; omega)), ob⟩
      ·
        have ⟨t0, c0, c1, c2, c3, c4, c5, c6, c7, c8, c9⟩ := T
        go_wp2_with fail
        clear t0 c0 c1 c2 c3 c4 c5 c6 c7 c8 c9
        go_ret
        exact ⟨ret_bool (by rw [x0.out, x1.out, x2.out] <;> first | rfl | exact beq_false_of_ne (by assumption) | exact beq_false_of_ne (by omega) | exact decide_eq_false (by omega) | (show _ = true; simp; done) | (show _ = true; simp; omega) | (show _ = false; simp; done) | (show _ = false; simp; omega)), ob⟩

set_option maxRecDepth 100000 in
set_option maxHeartbeats 2000000 in
theorem ex34_0 (H : Prm w np pm pa pc ⟨⟨34, frm, tto, line, op, num, flt, text, nn, nm, 0, kd⟩, na, nc, ka, kc⟩) :
    Calls Try.prog 23 #[.agg #[.slice pa np pc], .agg #[.int .i64 34, .int .i64 frm, .int .i64 tto, .int .i64 line, .int .i64 op, .int .i64 num, .float .f64 flt, .string text, .slice na nn nc, .slice ka 0 kc]] w fun e w' => e = .returned (.bool false) ∧ Onw w w' := by
  obtain ⟨hn, hk, hnn, htx, hr, hz, ht, hm⟩ := H
  dsimp only at hk hnn htx hr hz
  have T := Two.new w pa np pc 34 frm tto line op num flt text na nn nc ka 0 kc
  have ob := Two.start w pa np pc 34 frm tto line op num flt text na nn nc ka 0 kc
  go_enter Try.func23, Try.ntmps23
  go_wp2_with fail
  go_ret
  exact ⟨ret_bool (by first | rfl | exact beq_false_of_ne (by assumption) | exact beq_false_of_ne (by omega) | exact decide_eq_false (by omega) | (show _ = true; simp; done) | (show _ = true; simp; omega) | (show _ = false; simp; done) | (show _ = false; simp; omega)), ob⟩

set_option maxRecDepth 100000 in
set_option maxHeartbeats 2000000 in
theorem ex36_a (H : Prm w np pm pa pc ⟨⟨36, frm, tto, line, 0, num, flt, text, nn, nm, 1, kd⟩, na, nc, ka, kc⟩) :
    Calls Try.prog 23 #[.agg #[.slice pa np pc], .agg #[.int .i64 36, .int .i64 frm, .int .i64 tto, .int .i64 line, .int .i64 0, .int .i64 num, .float .f64 flt, .string text, .slice na nn nc, .slice ka 1 kc]] w fun e w' => e = .returned (.bool (((kidP (pdOf pm) (⟨36, frm, tto, line, 0, num, flt, text, nn, nm, 1, kd⟩ : PD) 0 == 1) && ((bareP (⟨36, frm, tto, line, 0, num, flt, text, nn, nm, 1, kd⟩ : PD) true false false true) && namedP (⟨36, frm, tto, line, 0, num, flt, text, nn, nm, 1, kd⟩ : PD) 0 200)))) ∧ Onw w w' := by
  obtain ⟨hn, hk, hnn, htx, hr, hz, ht, hm⟩ := H
  dsimp only at hk hnn htx hr hz
  have T := Two.new w pa np pc 36 frm tto line 0 num flt text na nn nc ka 1 kc
  have ob := Two.start w pa np pc 36 frm tto line 0 num flt text na nn nc ka 1 kc
  go_enter Try.func23, Try.ntmps23
  go_wp2_with fail
  refine (l6kid_any ⟨np, pm, pa, pc⟩ ⟨⟨36, frm, tto, line, 0, num, flt, text, nn, nm, 1, kd⟩, na, nc, ka, kc⟩ 0 _ hn (by dsimp only; omega) hk (hr 0 (by omega)).1 (hr 0 (by omega)).2 (TM.At.onw ob ht) (hm.2.onw ob)).mono ?_
  rintro e w1 ⟨rfl, O1⟩
  replace T := T.onw O1
  replace ob := ob.trans O1
  clear O1
  obtain ⟨q0, hq0⟩ : ∃ q, kidP (pdOf pm) (⟨36, frm, tto, line, 0, num, flt, text, nn, nm, 1, kd⟩ : PD) 0 = q := ⟨_, rfl⟩
  rw [hq0]
  by_cases y0 : q0 = 1
  · have x0 : Hid ((kidP (pdOf pm) (⟨36, frm, tto, line, 0, num, flt, text, nn, nm, 1, kd⟩ : PD) 0 == 1) = true) := by show _ = _; rw [hq0, y0]; rfl
    subst y0; clear hq0
    have ⟨t0, c0, c1, c2, c3, c4, c5, c6, c7, c8, c9⟩ := T
    go_wp2_with fail
    clear t0 c0 c1 c2 c3 c4 c5 c6 c7 c8 c9
    refine (l6bare_any ⟨⟨36, frm, tto, line, 0, num, flt, text, nn, nm, 1, kd⟩, na, nc, ka, kc⟩ _ true false false true (by decide)).mono ?_
    rintro e w1 ⟨rfl, O1⟩
    replace T := T.onw O1
    replace ob := ob.trans O1
    clear O1
    obtain ⟨q1, hq1⟩ : ∃ q, bareP (⟨36, frm, tto, line, 0, num, flt, text, nn, nm, 1, kd⟩ : PD) true false false true = q := ⟨_, rfl⟩
    rw [hq1]
    have x1 : Hid _ := hq1
    clear hq1
    cases q1
    ·
      obtain ⟨t0, c0, c1, c2, c3, c4, c5, c6, c7, c8, c9⟩ := T
      go_wp2_with fail
      go_ret
      exact ⟨ret_bool (by rw [x0.out, x1.out] <;> first | rfl | exact beq_false_of_ne (by assumption) | exact beq_false_of_ne (by omega) | exact decide_eq_false (by omega) | (show _ = true; simp; done) | (show _ = true; simp; omega) | (show _ = false; simp; done) | (show _ = false; simp; omega)), ob⟩
    ·
      have ⟨t0, c0, c1, c2, c3, c4, c5, c6, c7, c8, c9⟩ := T
      go_wp2_with fail
      clear t0 c0 c1 c2 c3 c4 c5 c6 c7 c8 c9
      refine (l6named_any ⟨⟨36, frm, tto, line, 0, num, flt, text, nn, nm, 1, kd⟩, na, nc, ka, kc⟩ 0 200 _ hnn hz (hm.1.onw ob)).mono ?_
      rintro e w1 ⟨rfl, O1⟩
      replace T := T.onw O1
      replace ob := ob.trans O1
      clear O1
      obtain ⟨q2, hq2⟩ : ∃ q, namedP (⟨36, frm, tto, line, 0, num, flt, text, nn, nm, 1, kd⟩ : PD) 0 200 = q := ⟨_, rfl⟩
      rw [hq2]
      have x2 : Hid _ := hq2
      clear hq2
      cases q2
      ·
        obtain ⟨t0, c0, c1, c2, c3, c4, c5, c6, c7, c8, c9⟩ := T
        go_wp2_with fail
        go_ret
        exact ⟨ret_bool (by rw [x0.out, x1.out, x2.out] <;> first | rfl | exact beq_false_of_ne (by assumption) | exact beq_false_of_ne (by omega) | exact decide_eq_false (by omega) | (show _ = true; simp; done) | (show _ = true; simp; omega) | (show _ = false; simp; done) | (show _ = false; simp; omega)), ob⟩
      ·
        have ⟨t0, c0, c1, c2, c3, c4, c5, c6, c7, c8, c9⟩ := T
        go_wp2_with fail
        clear t0 c0 c1 c2 c3 c4 c5 c6 c7 c8 c9
        go_ret
        exact ⟨ret_bool (by rw [x0.out, x1.out, x2.out] <;> first | rfl | exact beq_false_of_ne (by assumption) | exact beq_false_of_ne (by omega) | exact decide_eq_false (by omega) | (show _ = true; simp; done) | (show _ = true; simp; omega) | (show _ = false; simp; done) | (show _ = false; simp; omega)), ob⟩
  · have x0 : Hid ((kidP (pdOf pm) (⟨36, frm, tto, line, 0, num, flt, text, nn, nm, 1, kd⟩ : PD) 0 == 1) = false) := by show _ = _; rw [hq0]; exact beq_false_of_ne y0
    clear hq0
    obtain ⟨t0, c0, c1, c2, c3, c4, c5, c6, c7, c8, c9⟩ := T
    go_wp2_with fail
    go_ret
    exact ⟨ret_bool (by rw [x0.out] <;> first | rfl | exact beq_false_of_ne (by assumption) | exact beq_false_of_ne (by omega) | exact decide_eq_false (by omega) | (show _ = true; simp; done) | (show _ = true; simp; omega) | (show _ = false; simp; done) | (show _ = false; simp; omega)), ob⟩
end Go.Proofs.Ytnokgdgikdgaeaa
