import Derived.Test.YtnokgdgikdgaeaaP07
namespace Go.Proofs.Ytnokgdgikdgaeaa
open Go.RowKit
attribute [local go_sem] run_store_float
variable (w : World) (np : Nat) (pm : Nat → PM) (pa : Option Addr) (pc : Nat) (frm tto line op num : Int) (flt : Nat) (text : ByteArray) (nn : Nat) (nm : Nat → ByteArray) (nk : Nat) (kd : Nat → Int) (na : Option Addr) (nc : Nat) (ka : Option Addr) (kc : Nat)

set_option maxRecDepth 100000 in
set_option maxHeartbeats 2000000 in
theorem st2_nk (H : Prm w np pm pa pc ⟨⟨2, frm, tto, line, op, num, flt, text, nn, nm, nk, kd⟩, na, nc, ka, kc⟩) :
    Calls Try.prog 22 #[.agg #[.slice pa np pc], .agg #[.int .i64 2, .int .i64 frm, .int .i64 tto, .int .i64 line, .int .i64 op, .int .i64 num, .float .f64 flt, .string text, .slice na nn nc, .slice ka nk kc]] w fun e w' => e = .returned (.bool (((bareP (⟨2, frm, tto, line, op, num, flt, text, nn, nm, nk, kd⟩ : PD) false false false true) && ((namedP (⟨2, frm, tto, line, op, num, flt, text, nn, nm, nk, kd⟩ : PD) 1 200) && exprsP (pdOf pm) (⟨2, frm, tto, line, op, num, flt, text, nn, nm, nk, kd⟩ : PD) 0 nk)))) ∧ Onw w w' := by
  obtain ⟨hn, hk, hnn, htx, hr, hz, ht, hm⟩ := H
  dsimp only at hk hnn htx hr hz
  have T := Two.new w pa np pc 2 frm tto line op num flt text na nn nc ka nk kc
  have ob := Two.start w pa np pc 2 frm tto line op num flt text na nn nc ka nk kc
  go_enter Try.func22, Try.ntmps22
  go_wp2_with fail
  refine (l6bare_any ⟨⟨2, frm, tto, line, op, num, flt, text, nn, nm, nk, kd⟩, na, nc, ka, kc⟩ _ false false false true (by decide)).mono ?_
  rintro e w1 ⟨rfl, O1⟩
  replace T := T.onw O1
  replace ob := ob.trans O1
  clear O1
  obtain ⟨q0, hq0⟩ : ∃ q, bareP (⟨2, frm, tto, line, op, num, flt, text, nn, nm, nk, kd⟩ : PD) false false false true = q := ⟨_, rfl⟩
  rw [hq0]
  have x0 : Hid _ := hq0
  clear hq0
  cases q0
  ·
    obtain ⟨t0, c0, c1, c2, c3, c4, c5, c6, c7, c8, c9⟩ := T
    go_wp2_with fail
    go_ret
    exact ⟨ret_bool (by rw [x0.out] <;> first | rfl | exact beq_false_of_ne (by assumption) | exact beq_false_of_ne (by omega) | exact decide_eq_false (by omega) | (show _ = true; simp; done) | (show _ = true; simp; omega) | (show _ = false; simp; done) | (show _ = false; simp; omega)), ob⟩
  ·
    have ⟨t0, c0, c1, c2, c3, c4, c5, c6, c7, c8, c9⟩ := T
    go_wp2_with fail
    clear t0 c0 c1 c2 c3 c4 c5 c6 c7 c8 c9
    refine (l6named_any ⟨⟨2, frm, tto, line, op, num, flt, text, nn, nm, nk, kd⟩, na, nc, ka, kc⟩ 1 200 _ hnn hz (hm.1.onw ob)).mono ?_
    rintro e w1 ⟨rfl, O1⟩
    replace T := T.onw O1
    replace ob := ob.trans O1
    clear O1
    obtain ⟨q1, hq1⟩ : ∃ q, namedP (⟨2, frm, tto, line, op, num, flt, text, nn, nm, nk, kd⟩ : PD) 1 200 = q := ⟨_, rfl⟩
    rw [hq1]
    have x1 : Hid _ := hq1
    clear hq1
    cases q1
    ·
      obtain ⟨t0, c0, c1, c2, c3, c4, c5, c6, c7, c8, c9⟩ := T
      go_wp2_with fail
      go_ret
      exact ⟨ret_bool (by rw [x0.out, x1.out] <;> first | rfl | exact beq_false_of_ne (by assumption) | exact beq_false_of_ne (by omega) | exact decide_eq_false (by omega) | (show _ = true; simp; done) | (show _ = true; simp; omega) | (show _ = false; simp; done) | (show _ = false; simp; omega)), ob⟩
    ·
      have ⟨t0, c0, c1, c2, c3, c4, c5, c6, c7, c8, c9⟩ := T
      go_wp2_with fail
      clear t0 c0 c1 c2 c3 c4 c5 c6 c7 c8 c9
      refine (l6exprs_any ⟨np, pm, pa, pc⟩ ⟨⟨2, frm, tto, line, op, num, flt, text, nn, nm, nk, kd⟩, na, nc, ka, kc⟩ 0 nk _ hn (by omega) (by dsimp only; omega) hk hr (TM.At.onw ob ht) (hm.2.onw ob)).mono ?_
      rintro e w1 ⟨rfl, O1⟩
      replace T := T.onw O1
      replace ob := ob.trans O1
      clear O1
      obtain ⟨q2, hq2⟩ : ∃ q, exprsP (pdOf pm) (⟨2, frm, tto, line, op, num, flt, text, nn, nm, nk, kd⟩ : PD) 0 nk = q := ⟨_, rfl⟩
      rw [hq2]
      have x2 : Hid _ := hq2
      clear hq2
      cases q2
      ·
        obtain ⟨t0, c0, c1, c2, c3, c4, c5, c6, c7, c8, c9⟩ := T
        go_wp2_with fail
        go_ret
        exact ⟨ret_bool (by rw [x0.out, x1.out, x2.out] <;> first | rfl | exact beq_false_of_ne (by assumption) | exact beq_false_of_ne (by omega) | exact decide_eq_false (by omega) | (show _ = true; simp; done) | (show _ = true; simp; omega) | (show _ = false; simp; done) | (show _ = false; simp; omega)), ob⟩
      ·
        have ⟨t0, c0, c1, c2, c3, c4, c5, c6, c7, c8, c9⟩ := T
        go_wp2_with fail
        clear t0 c0 c1 c2 c3 c4 c5 c6 c7 c8 c9
        go_ret
        exact ⟨ret_bool (by rw [x0.out, x1.out, x2.out] <;> first | rfl | exact beq_false_of_ne (by assumption) | exact beq_false_of_ne (by omega) | exact decide_eq_false (by omega) | (show _ = true; simp; done) | (show _ = true; simp; omega) | (show _ = false; simp; done) | (show _ = false; simp; omega)), ob⟩

set_option maxRecDepth 100000 in
set_option maxHeartbeats 2000000 in
theorem st3_1 (H : Prm w np pm pa pc ⟨⟨3, frm, tto, line, op, num, flt, text, nn, nm, 1, kd⟩, na, nc, ka, kc⟩) :
    Calls Try.prog 22 #[.agg #[.slice pa np pc], .agg #[.int .i64 3, .int .i64 frm, .int .i64 tto, .int .i64 line, .int .i64 op, .int .i64 num, .float .f64 flt, .string text, .slice na nn nc, .slice ka 1 kc]] w fun e w' => e = .returned (.bool (((bareP (⟨3, frm, tto, line, op, num, flt, text, nn, nm, 1, kd⟩ : PD) false false false true) && ((namedP (⟨3, frm, tto, line, op, num, flt, text, nn, nm, 1, kd⟩ : PD) 1 1) && exprsP (pdOf pm) (⟨3, frm, tto, line, op, num, flt, text, nn, nm, 1, kd⟩ : PD) 0 1)))) ∧ Onw w w' := by
  obtain ⟨hn, hk, hnn, htx, hr, hz, ht, hm⟩ := H
  dsimp only at hk hnn htx hr hz
  have T := Two.new w pa np pc 3 frm tto line op num flt text na nn nc ka 1 kc
  have ob := Two.start w pa np pc 3 frm tto line op num flt text na nn nc ka 1 kc
  go_enter Try.func22, Try.ntmps22
  go_wp2_with fail
  refine (l6bare_any ⟨⟨3, frm, tto, line, op, num, flt, text, nn, nm, 1, kd⟩, na, nc, ka, kc⟩ _ false false false true (by decide)).mono ?_
  rintro e w1 ⟨rfl, O1⟩
  replace T := T.onw O1
  replace ob := ob.trans O1
  clear O1
  obtain ⟨q0, hq0⟩ : ∃ q, bareP (⟨3, frm, tto, line, op, num, flt, text, nn, nm, 1, kd⟩ : PD) false false false true = q := ⟨_, rfl⟩
  rw [hq0]
  have x0 : Hid _ := hq0
  clear hq0
  cases q0
  ·
    obtain ⟨t0, c0, c1, c2, c3, c4, c5, c6, c7, c8, c9⟩ := T
    go_wp2_with fail
    go_ret
    exact ⟨ret_bool (by rw [x0.out] <;> first | rfl | exact beq_false_of_ne (by assumption) | exact beq_false_of_ne (by omega) | exact decide_eq_false (by omega) | (show _ = true; simp; done) | (show _ = true; simp; omega) | (show _ = false; simp; done) | (show _ = false; simp; omega)), ob⟩
  ·
    have ⟨t0, c0, c1, c2, c3, c4, c5, c6, c7, c8, c9⟩ := T
    go_wp2_with fail
    clear t0 c0 c1 c2 c3 c4 c5 c6 c7 c8 c9
    refine (l6named_any ⟨⟨3, frm, tto, line, op, num, flt, text, nn, nm, 1, kd⟩, na, nc, ka, kc⟩ 1 1 _ hnn hz (hm.1.onw ob)).mono ?_
    rintro e w1 ⟨rfl, O1⟩
    replace T := T.onw O1
    replace ob := ob.trans O1
    clear O1
    obtain ⟨q1, hq1⟩ : ∃ q, namedP (⟨3, frm, tto, line, op, num, flt, text, nn, nm, 1, kd⟩ : PD) 1 1 = q := ⟨_, rfl⟩
    rw [hq1]
    have x1 : Hid _ := hq1
    clear hq1
    cases q1
    ·
      obtain ⟨t0, c0, c1, c2, c3, c4, c5, c6, c7, c8, c9⟩ := T
      go_wp2_with fail
      go_ret
      exact ⟨ret_bool (by rw [x0.out, x1.out] <;> first | rfl | exact beq_false_of_ne (by assumption) | exact beq_false_of_ne (by omega) | exact decide_eq_false (by omega) | (show _ = true; simp; done) | (show _ = true; simp; omega) | (show _ = false; simp; done) | (show _ = false; simp; omega)), ob⟩
    ·
      have ⟨t0, c0, c1, c2, c3, c4, c5, c6, c7, c8, c9⟩ := T
      go_wp2_with fail
      clear t0 c0 c1 c2 c3 c4 c5 c6 c7 c8 c9
      refine (l6exprs_any ⟨np, pm, pa, pc⟩ ⟨⟨3, frm, tto, line, op, num, flt, text, nn, nm, 1, kd⟩, na, nc, ka, kc⟩ 0 1 _ hn (by omega) (by dsimp only; omega) hk hr (TM.At.onw ob ht) (hm.2.onw ob)).mono ?_
      rintro e w1 ⟨rfl, O1⟩
      replace T := T.onw O1
      replace ob := ob.trans O1
      clear O1
      obtain ⟨q2, hq2⟩ : ∃ q, exprsP (pdOf pm) (⟨3, frm, tto, line, op, num, flt, text, nn, nm, 1, kd⟩ : PD) 0 1 = q := ⟨_, rfl⟩
      rw [hq2]
      have x2 : Hid _ := hq2
      clear hq2
      cases q2
      ·
        obtain ⟨t0, c0, c1, c2, c3, c4, c5, c6, c7, c8, c9⟩ := T
        go_wp2_with fail
        go_ret
        exact ⟨ret_bool (by rw [x0.out, x1.out, x2.out] <;> first | rfl | exact beq_false_of_ne (by assumption) | exact beq_false_of_ne (by omega) | exact decide_eq_false (by omega) | (show _ = true; simp; done) | (show _ = true; simp; omega) | (show _ = false; simp; done) | (show _ = false; simp; omega)), ob⟩
      ·
        have ⟨t0, c0, c1, c2, c3, c4, c5, c6, c7, c8, c9⟩ := T
        go_wp2_with fail
        clear t0 c0 c1 c2 c3 c4 c5 c6 c7 c8 c9
        go_ret
        exact ⟨ret_bool (by rw [x0.out, x1.out, x2.out] <;> first | rfl | exact beq_false_of_ne (by assumption) | exact beq_false_of_ne (by omega) | exact decide_eq_false (by omega) | (show _ = true; simp; done) | (show _ = true; simp; omega) | (show _ = false; simp; done) | (show _ = false; simp; omega)), ob⟩

set_option maxRecDepth 100000 in
set_option maxHeartbeats 2000000 in
theorem st3_no (hne : nk ≠ 1) (H : Prm w np pm pa pc ⟨⟨3, frm, tto, line, op, num, flt, text, nn, nm, nk, kd⟩, na, nc, ka, kc⟩) :
    Calls Try.prog 22 #[.agg #[.slice pa np pc], .agg #[.int .i64 3, .int .i64 frm, .int .i64 tto, .int .i64 line, .int .i64 op, .int .i64 num, .float .f64 flt, .string text, .slice na nn nc, .slice ka nk kc]] w fun e w' => e = .returned (.bool false) ∧ Onw w w' := by
  obtain ⟨hn, hk, hnn, htx, hr, hz, ht, hm⟩ := H
  dsimp only at hk hnn htx hr hz
  have T := Two.new w pa np pc 3 frm tto line op num flt text na nn nc ka nk kc
  have ob := Two.start w pa np pc 3 frm tto line op num flt text na nn nc ka nk kc
  go_enter Try.func22, Try.ntmps22
  go_wp2_with fail
  refine (l6bare_any ⟨⟨3, frm, tto, line, op, num, flt, text, nn, nm, nk, kd⟩, na, nc, ka, kc⟩ _ false false false true (by decide)).mono ?_
  rintro e w1 ⟨rfl, O1⟩
  replace T := T.onw O1
  replace ob := ob.trans O1
  clear O1
  obtain ⟨q0, hq0⟩ : ∃ q, bareP (⟨3, frm, tto, line, op, num, flt, text, nn, nm, nk, kd⟩ : PD) false false false true = q := ⟨_, rfl⟩
  rw [hq0]
  have x0 : Hid _ := hq0
  clear hq0
  cases q0
  ·
    obtain ⟨t0, c0, c1, c2, c3, c4, c5, c6, c7, c8, c9⟩ := T
    go_wp2_with fail
    go_ret
    exact ⟨ret_bool (by first | rfl | exact beq_false_of_ne (by assumption) | exact beq_false_of_ne (by omega) | exact decide_eq_false (by omega) | (show _ = true; simp; done) | (show _ = true; simp; omega) | (show _ = false; simp; done) | (show _ = false; simp; omega)), ob⟩
  ·
    have ⟨t0, c0, c1, c2, c3, c4, c5, c6, c7, c8, c9⟩ := T
    go_wp2_with fail
    clear t0 c0 c1 c2 c3 c4 c5 c6 c7 c8 c9
    refine (l6named_any ⟨⟨3, frm, tto, line, op, num, flt, text, nn, nm, nk, kd⟩, na, nc, ka, kc⟩ 1 1 _ hnn hz (hm.1.onw ob)).mono ?_
    rintro e w1 ⟨rfl, O1⟩
    replace T := T.onw O1
    replace ob := ob.trans O1
    clear O1
    obtain ⟨q1, hq1⟩ : ∃ q, namedP (⟨3, frm, tto, line, op, num, flt, text, nn, nm, nk, kd⟩ : PD) 1 1 = q := ⟨_, rfl⟩
    rw [hq1]
    have x1 : Hid _ := hq1
    clear hq1
    cases q1
    ·
      obtain ⟨t0, c0, c1, c2, c3, c4, c5, c6, c7, c8, c9⟩ := T
      go_wp2_with fail
      go_ret
      exact ⟨ret_bool (by first | rfl | exact beq_false_of_ne (by assumption) | exact beq_false_of_ne (by omega) | exact decide_eq_false (by omega) | (show _ = true; simp; done) | (show _ = true; simp; omega) | (show _ = false; simp; done) | (show _ = false; simp; omega)), ob⟩
    ·
      have ⟨t0, c0, c1, c2, c3, c4, c5, c6, c7, c8, c9⟩ := T
      go_wp2_with fail
      clear t0 c0 c1 c2 c3 c4 c5 c6 c7 c8 c9
      go_ret
      exact ⟨ret_bool (by first | rfl | exact beq_false_of_ne (by assumption) | exact beq_false_of_ne (by omega) | exact decide_eq_false (by omega) | (show _ = true; simp; done) | (show _ = true; simp; omega) | (show _ = false; simp; done) | (show _ = false; simp; omega)), ob⟩

set_option maxRecDepth 100000 in
set_option maxHeartbeats 2000000 in
theorem st4_1 (H : Prm w np pm pa pc ⟨⟨4, frm, tto, line, op, num, flt, text, nn, nm, 1, kd⟩, na, nc, ka, kc⟩) :
    Calls Try.prog 22 #[.agg #[.slice pa np pc], .agg #[.int .i64 4, .int .i64 frm, .int .i64 tto, .int .i64 line, .int .i64 op, .int .i64 num, .float .f64 flt, .string text, .slice na nn nc, .slice ka 1 kc]] w fun e w' => e = .returned (.bool (((bareP (⟨4, frm, tto, line, op, num, flt, text, nn, nm, 1, kd⟩ : PD) false false false true) && ((namedP (⟨4, frm, tto, line, op, num, flt, text, nn, nm, 1, kd⟩ : PD) 1 1) && (kidP (pdOf pm) (⟨4, frm, tto, line, op, num, flt, text, nn, nm, 1, kd⟩ : PD) 0 == 36))))) ∧ Onw w w' := by
  obtain ⟨hn, hk, hnn, htx, hr, hz, ht, hm⟩ := H
  dsimp only at hk hnn htx hr hz
  have T := Two.new w pa np pc 4 frm tto line op num flt text na nn nc ka 1 kc
  have ob := Two.start w pa np pc 4 frm tto line op num flt text na nn nc ka 1 kc
  go_enter Try.func22, Try.ntmps22
  go_wp2_with fail
  refine (l6bare_any ⟨⟨4, frm, tto, line, op, num, flt, text, nn, nm, 1, kd⟩, na, nc, ka, kc⟩ _ false false false true (by decide)).mono ?_
  rintro e w1 ⟨rfl, O1⟩
  replace T := T.onw O1
  replace ob := ob.trans O1
  clear O1
  obtain ⟨q0, hq0⟩ : ∃ q, bareP (⟨4, frm, tto, line, op, num, flt, text, nn, nm, 1, kd⟩ : PD) false false false true = q := ⟨_, rfl⟩
  rw [hq0]
  have x0 : Hid _ := hq0
  clear hq0
  cases q0
  ·
    obtain ⟨t0, c0, c1, c2, c3, c4, c5, c6, c7, c8, c9⟩ := T
    go_wp2_with fail
    go_ret
    exact ⟨ret_bool (by rw [x0.out] <;> first | rfl | exact beq_false_of_ne (by assumption) | exact beq_false_of_ne (by omega) | exact decide_eq_false (by omega) | (show _ = true; simp; done) | (show _ = true; simp; omega) | (show _ = false; simp; done) | (show _ = false; simp; omega)), ob⟩
  ·
    have ⟨t0, c0, c1, c2, c3, c4, c5, c6, c7, c8, c9⟩ := T
    go_wp2_with fail
    clear t0 c0 c1 c2 c3 c4 c5 c6 c7 c8 c9
    refine (l6named_any ⟨⟨4, frm, tto, line, op, num, flt, text, nn, nm, 1, kd⟩, na, nc, ka, kc⟩ 1 1 _ hnn hz (hm.1.onw ob)).mono ?_
    rintro e w1 ⟨rfl, O1⟩
    replace T := T.onw O1
    replace ob := ob.trans O1
    clear O1
    obtain ⟨q1, hq1⟩ : ∃ q, namedP (⟨4, frm, tto, line, op, num, flt, text, nn, nm, 1, kd⟩ : PD) 1 1 = q := ⟨_, rfl⟩
    rw [hq1]
    have x1 : Hid _ := hq1
    clear hq1
    cases q1
    ·
      obtain ⟨t0, c0, c1, c2, c3, c4, c5, c6, c7, c8, c9⟩ := T
      go_wp2_with fail
      go_ret
      exact ⟨ret_bool (by rw [x0.out, x1.out] <;> first | rfl | exact beq_false_of_ne (by assumption) | exact beq_false_of_ne (by omega) | exact decide_eq_false (by omega) | (show _ = true; simp; done) | (show _ = true; simp; omega) | (show _ = false; simp; done) | (show _ = false; simp; omega)), ob⟩
    ·
      have ⟨t0, c0, c1, c2, c3, c4, c5, c6, c7, c8, c9⟩ := T
      go_wp2_with fail
      clear t0 c0 c1 c2 c3 c4 c5 c6 c7 c8 c9
      refine (l6kid_any ⟨np, pm, pa, pc⟩ ⟨⟨4, frm, tto, line, op, num, flt, text, nn, nm, 1, kd⟩, na, nc, ka, kc⟩ 0 _ hn (by dsimp only; omega) hk (hr 0 (by omega)).1 (hr 0 (by omega)).2 (TM.At.onw ob ht) (hm.2.onw ob)).mono ?_
      rintro e w1 ⟨rfl, O1⟩
      replace T := T.onw O1
      replace ob := ob.trans O1
      clear O1
      obtain ⟨q2, hq2⟩ : ∃ q, kidP (pdOf pm) (⟨4, frm, tto, line, op, num, flt, text, nn, nm, 1, kd⟩ : PD) 0 = q := ⟨_, rfl⟩
      rw [hq2]
      by_cases y2 : q2 = 36
      · have x2 : Hid ((kidP (pdOf pm) (⟨4, frm, tto, line, op, num, flt, text, nn, nm, 1, kd⟩ : PD) 0 == 36) = true) := by show _ = _; rw [hq2, y2]; rfl
        subst y2; clear hq2
        have ⟨t0, c0, c1, c2, c3, c4, c5, c6, c7, c8, c9⟩ := T
        go_wp2_with fail
        clear t0 c0 c1 c2 c3 c4 c5 c6 c7 c8 c9
        go_ret
        exact ⟨ret_bool (by rw [x0.out, x1.out, x2.out] <;> first | rfl | exact beq_false_of_ne (by assumption) | exact beq_false_of_ne (by omega) | exact decide_eq_false (by omega) | (show _ = true; simp; done) | (show _ = true; simp; omega) | (show _ = false; simp; done) | (show _ = false; simp; omega)), ob⟩
      · have x2 : Hid ((kidP (pdOf pm) (⟨4, frm, tto, line, op, num, flt, text, nn, nm, 1, kd⟩ : PD) 0 == 36) = false) := by show _ = _; rw [hq2]; exact beq_false_of_ne y2
        clear hq2
        obtain ⟨t0, c0, c1, c2, c3, c4, c5, c6, c7, c8, c9⟩ := T
        go_wp2_with fail
        go_ret
        exact ⟨ret_bool (by rw [x0.out, x1.out, x2.out] <;> first | rfl | exact beq_false_of_ne (by assumption) | exact beq_false_of_ne (by omega) | exact decide_eq_false (by omega) | (show _ = true; simp; done) | (show _ = true; simp; omega) | (show _ = false; simp; done) | (show _ = false; simp; omega)), ob⟩

set_option maxRecDepth 100000 in
set_option maxHeartbeats 2000000 in
theorem st4_no (hne : nk ≠ 1) (H : Prm w np pm pa pc ⟨⟨4, frm, tto, line, op, num, flt, text, nn, nm, nk, kd⟩, na, nc, ka, kc⟩) :
    Calls Try.prog 22 #[.agg #[.slice pa np pc], .agg #[.int .i64 4, .int .i64 frm, .int .i64 tto, .int .i64 line, .int .i64 op, .int .i64 num, .float .f64 flt, .string text, .slice na nn nc, .slice ka nk kc]] w fun e w' => e = .returned (.bool false) ∧ Onw w w' := by
  obtain ⟨hn, hk, hnn, htx, hr, hz, ht, hm⟩ := H
  dsimp only at hk hnn htx hr hz
  have T := Two.new w pa np pc 4 frm tto line op num flt text na nn nc ka nk kc
  have ob := Two.start w pa np pc 4 frm tto line op num flt text na nn nc ka nk kc
  go_enter Try.func22, Try.ntmps22
  go_wp2_with fail
  refine (l6bare_any ⟨⟨4, frm, tto, line, op, num, flt, text, nn, nm, nk, kd⟩, na, nc, ka, kc⟩ _ false false false true (by decide)).mono ?_
  rintro e w1 ⟨rfl, O1⟩
  replace T := T.onw O1
  replace ob := ob.trans O1
  clear O1
  obtain ⟨q0, hq0⟩ : ∃ q, bareP (⟨4, frm, tto, line, op, num, flt, text, nn, nm, nk, kd⟩ : PD) false false false true = q := ⟨_, rfl⟩
  rw [hq0]
  have x0 : Hid _ := hq0
  clear hq0
  cases q0
  ·
    obtain ⟨t0, c0, c1, c2, c3, c4, c5, c6, c7, c8, c9⟩ := T
    go_wp2_with fail
    go_ret
    exact ⟨ret_bool (by first | rfl | exact beq_false_of_ne (by assumption) | exact beq_false_of_ne (by omega) | exact decide_eq_false (by omega) | (show _ = true; simp; done) | (show _ = true; simp; omega) | (show _ = false; simp; done) | (show _ = false; simp; omega)), ob⟩
  ·
    have ⟨t0, c0, c1, c2, c3, c4, c5, c6, c7, c8, c9⟩ := T
    go_wp2_with fail
    clear t0 c0 c1 c2 c3 c4 c5 c6 c7 c8 c9
    refine (l6named_any ⟨⟨4, frm, tto, line, op, num, flt, text, nn, nm, nk, kd⟩, na, nc, ka, kc⟩ 1 1 _ hnn hz (hm.1.onw ob)).mono ?_
    rintro e w1 ⟨rfl, O1⟩
    replace T := T.onw O1
    replace ob := ob.trans O1
    clear O1
    obtain ⟨q1, hq1⟩ : ∃ q, namedP (⟨4, frm, tto, line, op, num, flt, text, nn, nm, nk, kd⟩ : PD) 1 1 = q := ⟨_, rfl⟩
    rw [hq1]
    have x1 : Hid _ := hq1
    clear hq1
    cases q1
    ·
      obtain ⟨t0, c0, c1, c2, c3, c4, c5, c6, c7, c8, c9⟩ := T
      go_wp2_with fail
      go_ret
      exact ⟨ret_bool (by first | rfl | exact beq_false_of_ne (by assumption) | exact beq_false_of_ne (by omega) | exact decide_eq_false (by omega) | (show _ = true; simp; done) | (show _ = true; simp; omega) | (show _ = false; simp; done) | (show _ = false; simp; omega)), ob⟩
    ·
      have ⟨t0, c0, c1, c2, c3, c4, c5, c6, c7, c8, c9⟩ := T
      go_wp2_with fail
      clear t0 c0 c1 c2 c3 c4 c5 c6 c7 c8 c9
      go_ret
      exact ⟨ret_bool (by first | rfl | exact beq_false_of_ne (by assumption) | exact beq_false_of_ne (by omega) | exact decide_eq_false (by omega) | (show _ = true; simp; done) | (show _ = true; simp; omega) | (show _ = false; simp; done) | (show _ = false; simp; omega)), ob⟩

set_option maxRecDepth 100000 in
set_option maxHeartbeats 2000000 in
theorem st6_1 (H : Prm w np pm pa pc ⟨⟨6, frm, tto, line, op, num, flt, text, nn, nm, 1, kd⟩, na, nc, ka, kc⟩) :
    Calls Try.prog 22 #[.agg #[.slice pa np pc], .agg #[.int .i64 6, .int .i64 frm, .int .i64 tto, .int .i64 line, .int .i64 op, .int .i64 num, .float .f64 flt, .string text, .slice na nn nc, .slice ka 1 kc]] w fun e w' => e = .returned (.bool (((bareP (⟨6, frm, tto, line, op, num, flt, text, nn, nm, 1, kd⟩ : PD) false false false false) && (kidP (pdOf pm) (⟨6, frm, tto, line, op, num, flt, text, nn, nm, 1, kd⟩ : PD) 0 == 34)))) ∧ Onw w w' := by
  obtain ⟨hn, hk, hnn, htx, hr, hz, ht, hm⟩ := H
  dsimp only at hk hnn htx hr hz
  have T := Two.new w pa np pc 6 frm tto line op num flt text na nn nc ka 1 kc
  have ob := Two.start w pa np pc 6 frm tto line op num flt text na nn nc ka 1 kc
  go_enter Try.func22, Try.ntmps22
  go_wp2_with fail
  refine (l6bare_any ⟨⟨6, frm, tto, line, op, num, flt, text, nn, nm, 1, kd⟩, na, nc, ka, kc⟩ _ false false false false (by decide)).mono ?_
  rintro e w1 ⟨rfl, O1⟩
  replace T := T.onw O1
  replace ob := ob.trans O1
  clear O1
  obtain ⟨q0, hq0⟩ : ∃ q, bareP (⟨6, frm, tto, line, op, num, flt, text, nn, nm, 1, kd⟩ : PD) false false false false = q := ⟨_, rfl⟩
  rw [hq0]
  have x0 : Hid _ := hq0
  clear hq0
  cases q0
  ·
    obtain ⟨t0, c0, c1, c2, c3, c4, c5, c6, c7, c8, c9⟩ := T
    go_wp2_with fail
    go_ret
    exact ⟨ret_bool (by rw [x0.out] <;> first | rfl | exact beq_false_of_ne (by assumption) | exact beq_false_of_ne (by omega) | exact decide_eq_false (by omega) | (show _ = true; simp; done) | (show _ = true; simp; omega) | (show _ = false; simp; done) | (show _ = false; simp; omega)), ob⟩
  ·
    have ⟨t0, c0, c1, c2, c3, c4, c5, c6, c7, c8, c9⟩ := T
    go_wp2_with fail
    clear t0 c0 c1 c2 c3 c4 c5 c6 c7 c8 c9
    refine (l6kid_any ⟨np, pm, pa, pc⟩ ⟨⟨6, frm, tto, line, op, num, flt, text, nn, nm, 1, kd⟩, na, nc, ka, kc⟩ 0 _ hn (by dsimp only; omega) hk (hr 0 (by omega)).1 (hr 0 (by omega)).2 (TM.At.onw ob ht) (hm.2.onw ob)).mono ?_
    rintro e w1 ⟨rfl, O1⟩
    replace T := T.onw O1
    replace ob := ob.trans O1
    clear O1
    obtain ⟨q1, hq1⟩ : ∃ q, kidP (pdOf pm) (⟨6, frm, tto, line, op, num, flt, text, nn, nm, 1, kd⟩ : PD) 0 = q := ⟨_, rfl⟩
    rw [hq1]
    by_cases y1 : q1 = 34
    · have x1 : Hid ((kidP (pdOf pm) (⟨6, frm, tto, line, op, num, flt, text, nn, nm, 1, kd⟩ : PD) 0 == 34) = true) := by show _ = _; rw [hq1, y1]; rfl
      subst y1; clear hq1
      have ⟨t0, c0, c1, c2, c3, c4, c5, c6, c7, c8, c9⟩ := T
      go_wp2_with fail
      clear t0 c0 c1 c2 c3 c4 c5 c6 c7 c8 c9
      go_ret
      exact ⟨ret_bool (by rw [x0.out, x1.out] <;> first | rfl | exact beq_false_of_ne (by assumption) | exact beq_false_of_ne (by omega) | exact decide_eq_false (by omega) | (show _ = true; simp; done) | (show _ = true; simp; omega) | (show _ = false; simp; done) | (show _ = false; simp; omega)), ob⟩
    · have x1 : Hid ((kidP (pdOf pm) (⟨6, frm, tto, line, op, num, flt, text, nn, nm, 1, kd⟩ : PD) 0 == 34) = false) := by show _ = _; rw [hq1]; exact beq_false_of_ne y1
      clear hq1
      obtain ⟨t0, c0, c1, c2, c3, c4, c5, c6, c7, c8, c9⟩ := T
      go_wp2_with fail
      go_ret
      exact ⟨ret_bool (by rw [x0.out, x1.out] <;> first | rfl | exact beq_false_of_ne (by assumption) | exact beq_false_of_ne (by omega) | exact decide_eq_false (by omega) | (show _ = true; simp; done) | (show _ = true; simp; omega) | (show _ = false; simp; done) | (show _ = false; simp; omega)), ob⟩

set_option maxRecDepth 100000 in
set_option maxHeartbeats 2000000 in
theorem st6_no (hne : nk ≠ 1) (H : Prm w np pm pa pc ⟨⟨6, frm, tto, line, op, num, flt, text, nn, nm, nk, kd⟩, na, nc, ka, kc⟩) :
    Calls Try.prog 22 #[.agg #[.slice pa np pc], .agg #[.int .i64 6, .int .i64 frm, .int .i64 tto, .int .i64 line, .int .i64 op, .int .i64 num, .float .f64 flt, .string text, .slice na nn nc, .slice ka nk kc]] w fun e w' => e = .returned (.bool false) ∧ Onw w w' := by
  obtain ⟨hn, hk, hnn, htx, hr, hz, ht, hm⟩ := H
  dsimp only at hk hnn htx hr hz
  have T := Two.new w pa np pc 6 frm tto line op num flt text na nn nc ka nk kc
  have ob := Two.start w pa np pc 6 frm tto line op num flt text na nn nc ka nk kc
  go_enter Try.func22, Try.ntmps22
  go_wp2_with fail
  refine (l6bare_any ⟨⟨6, frm, tto, line, op, num, flt, text, nn, nm, nk, kd⟩, na, nc, ka, kc⟩ _ false false false false (by decide)).mono ?_
  rintro e w1 ⟨rfl, O1⟩
  replace T := T.onw O1
  replace ob := ob.trans O1
  clear O1
  obtain ⟨q0, hq0⟩ : ∃ q, bareP (⟨6, frm, tto, line, op, num, flt, text, nn, nm, nk, kd⟩ : PD) false false false false = q := ⟨_, rfl⟩
  rw [hq0]
  have x0 : Hid _ := hq0
  clear hq0
  cases q0
  ·
    obtain ⟨t0, c0, c1, c2, c3, c4, c5, c6, c7, c8, c9⟩ := T
    go_wp2_with fail
    go_ret
    exact ⟨ret_bool (by first | rfl | exact beq_false_of_ne (by assumption) | exact beq_false_of_ne (by omega) | exact decide_eq_false (by omega) | (show _ = true; simp; done) | (show _ = true; simp; omega) | (show _ = false; simp; done) | (show _ = false; simp; omega)), ob⟩
  ·
    have ⟨t0, c0, c1, c2, c3, c4, c5, c6, c7, c8, c9⟩ := T
    go_wp2_with fail
    clear t0 c0 c1 c2 c3 c4 c5 c6 c7 c8 c9
    go_ret
    exact ⟨ret_bool (by first | rfl | exact beq_false_of_ne (by assumption) | exact beq_false_of_ne (by omega) | exact decide_eq_false (by omega) | (show _ = true; simp; done) | (show _ = true; simp; omega) | (show _ = false; simp; done) | (show _ = false; simp; omega)), ob⟩
end Go.Proofs.Ytnokgdgikdgaeaa
