import Derived.Test.YtnokgdgikdgaeaaP07
namespace Go.Proofs.Ytnokgdgikdgaeaa
open Go.RowKit
attribute [local go_sem] run_store_float
variable (w : World) (np : Nat) (pm : Nat → PM) (pa : Option Addr) (pc : Nat) (frm tto line op num : Int) (flt : Nat) (text : ByteArray) (nn : Nat) (nm : Nat → ByteArray) (nk : Nat) (kd : Nat → Int) (na : Option Addr) (nc : Nat) (ka : Option Addr) (kc : Nat)

set_option maxRecDepth 100000 in
set_option maxHeartbeats 2000000 in
theorem st15_no (hne : nk ≠ 1) (H : Prm w np pm pa pc ⟨⟨15, frm, tto, line, op, num, flt, text, nn, nm, nk, kd⟩, na, nc, ka, kc⟩) :
    Calls Try.prog 22 #[.agg #[.slice pa np pc], .agg #[.int .i64 15, .int .i64 frm, .int .i64 tto, .int .i64 line, .int .i64 op, .int .i64 num, .float .f64 flt, .string text, .slice na nn nc, .slice ka nk kc]] w fun e w' => e = .returned (.bool false) ∧ Onw w w' := by
  obtain ⟨hn, hk, hnn, htx, hr, hz, ht, hm⟩ := H
  dsimp only at hk hnn htx hr hz
  have T := Two.new w pa np pc 15 frm tto line op num flt text na nn nc ka nk kc
  have ob := Two.start w pa np pc 15 frm tto line op num flt text na nn nc ka nk kc
  go_enter Try.func22, Try.ntmps22
  go_wp2_with fail
  refine (l6bare_any ⟨⟨15, frm, tto, line, op, num, flt, text, nn, nm, nk, kd⟩, na, nc, ka, kc⟩ _ false false false false (by decide)).mono ?_
  rintro e w1 ⟨rfl, O1⟩
  replace T := T.onw O1
  replace ob := ob.trans O1
  clear O1
  obtain ⟨q0, hq0⟩ : ∃ q, bareP (⟨15, frm, tto, line, op, num, flt, text, nn, nm, nk, kd⟩ : PD) false false false false = q := ⟨_, rfl⟩
  rw [hq0]
  have x0 : Hid _ := hq0
  clear hq0
  cases q0
  ·
    obtain ⟨t0, c0, c1, c2, c3, c4, c5, c6, c7, c8, c9⟩ := T
    go_wp2_with fail
    go_ret
    exact ⟨ret_bool (by first | rfl | exact beq_false_of_ne (by assumption) | exact beq_false_of_ne (by omega) | exact decide_eq_false (by omega) | (show _ = true; simp; done) | (show _ = true; simp; omega) | (show _ = false; simp; done) | (show _ = false; simp; omega)), ob⟩
  ·
    have ⟨t0, c0, c1, c2, c3, c4, c5, c6, c7, c8, c9⟩ := T
    go_wp2_with fail
    clear t0 c0 c1 c2 c3 c4 c5 c6 c7 c8 c9
    go_ret
    exact ⟨ret_bool (by first | rfl | exact beq_false_of_ne (by assumption) | exact beq_false_of_ne (by omega) | exact decide_eq_false (by omega) | (show _ = true; simp; done) | (show _ = true; simp; omega) | (show _ = false; simp; done) | (show _ = false; simp; omega)), ob⟩

set_option maxRecDepth 100000 in
set_option maxHeartbeats 2000000 in
theorem st9_3 (H : Prm w np pm pa pc ⟨⟨9, frm, tto, line, op, num, flt, text, nn, nm, 3, kd⟩, na, nc, ka, kc⟩) :
    Calls Try.prog 22 #[.agg #[.slice pa np pc], .agg #[.int .i64 9, .int .i64 frm, .int .i64 tto, .int .i64 line, .int .i64 op, .int .i64 num, .float .f64 flt, .string text, .slice na nn nc, .slice ka 3 kc]] w fun e w' => e = .returned (.bool (((bareP (⟨9, frm, tto, line, op, num, flt, text, nn, nm, 3, kd⟩ : PD) false false false true) && ((namedP (⟨9, frm, tto, line, op, num, flt, text, nn, nm, 3, kd⟩ : PD) 1 1) && ((exprsP (pdOf pm) (⟨9, frm, tto, line, op, num, flt, text, nn, nm, 3, kd⟩ : PD) 0 2) && (kidP (pdOf pm) (⟨9, frm, tto, line, op, num, flt, text, nn, nm, 3, kd⟩ : PD) 2 == 1)))))) ∧ Onw w w' := by
  obtain ⟨hn, hk, hnn, htx, hr, hz, ht, hm⟩ := H
  dsimp only at hk hnn htx hr hz
  have T := Two.new w pa np pc 9 frm tto line op num flt text na nn nc ka 3 kc
  have ob := Two.start w pa np pc 9 frm tto line op num flt text na nn nc ka 3 kc
  go_enter Try.func22, Try.ntmps22
  go_wp2_with fail
  refine (l6bare_any ⟨⟨9, frm, tto, line, op, num, flt, text, nn, nm, 3, kd⟩, na, nc, ka, kc⟩ _ false false false true (by decide)).mono ?_
  rintro e w1 ⟨rfl, O1⟩
  replace T := T.onw O1
  replace ob := ob.trans O1
  clear O1
  obtain ⟨q0, hq0⟩ : ∃ q, bareP (⟨9, frm, tto, line, op, num, flt, text, nn, nm, 3, kd⟩ : PD) false false false true = q := ⟨_, rfl⟩
  rw [hq0]
  have x0 : Hid _ := hq0
  clear hq0
  cases q0
  ·
    obtain ⟨t0, c0, c1, c2, c3, c4, c5, c6, c7, c8, c9⟩ := T
    go_wp2_with fail
    go_ret
    exact ⟨ret_bool (by rw [x0.out] <;> first | rfl | exact beq_false_of_ne (by assumption) | exact beq_false_of_ne (by omega) | exact decide_eq_false (by omega) | (show _ = true; simp; done) | (show _ = true; simp; omega) | (show _ = false; simp; done) | (show _ = false; simp; omega)), ob⟩
  ·
    have ⟨t0, c0, c1, c2, c3, c4, c5, c6, c7, c8, c9⟩ := T
    go_wp2_with fail
    clear t0 c0 c1 c2 c3 c4 c5 c6 c7 c8 c9
    refine (l6named_any ⟨⟨9, frm, tto, line, op, num, flt, text, nn, nm, 3, kd⟩, na, nc, ka, kc⟩ 1 1 _ hnn hz (hm.1.onw ob)).mono ?_
    rintro e w1 ⟨rfl, O1⟩
    replace T := T.onw O1
    replace ob := ob.trans O1
    clear O1
    obtain ⟨q1, hq1⟩ : ∃ q, namedP (⟨9, frm, tto, line, op, num, flt, text, nn, nm, 3, kd⟩ : PD) 1 1 = q := ⟨_, rfl⟩
    rw [hq1]
    have x1 : Hid _ := hq1
    clear hq1
    cases q1
    ·
      obtain ⟨t0, c0, c1, c2, c3, c4, c5, c6, c7, c8, c9⟩ := T
      go_wp2_with fail
      go_ret
      exact ⟨ret_bool (by rw [x0.out, x1.out] <;> first | rfl | exact beq_false_of_ne (by assumption) | exact beq_false_of_ne (by omega) | exact decide_eq_false (by omega) | (show _ = true; simp; done) | (show _ = true; simp; omega) | (show _ = false; simp; done) | (show _ = false; simp; omega)), ob⟩
    ·
      have ⟨t0, c0, c1, c2, c3, c4, c5, c6, c7, c8, c9⟩ := T
      go_wp2_with fail
      clear t0 c0 c1 c2 c3 c4 c5 c6 c7 c8 c9
      refine (l6exprs_any ⟨np, pm, pa, pc⟩ ⟨⟨9, frm, tto, line, op, num, flt, text, nn, nm, 3, kd⟩, na, nc, ka, kc⟩ 0 2 _ hn (by omega) (by dsimp only; omega) hk hr (TM.At.onw ob ht) (hm.2.onw ob)).mono ?_
      rintro e w1 ⟨rfl, O1⟩
      replace T := T.onw O1
      replace ob := ob.trans O1
      clear O1
      obtain ⟨q2, hq2⟩ : ∃ q, exprsP (pdOf pm) (⟨9, frm, tto, line, op, num, flt, text, nn, nm, 3, kd⟩ : PD) 0 2 = q := ⟨_, rfl⟩
      rw [hq2]
      have x2 : Hid _ := hq2
      clear hq2
      cases q2
      ·
        obtain ⟨t0, c0, c1, c2, c3, c4, c5, c6, c7, c8, c9⟩ := T
        go_wp2_with fail
        go_ret
        exact ⟨ret_bool (by rw [x0.out, x1.out, x2.out] <;> first | rfl | exact beq_false_of_ne (by assumption) | exact beq_false_of_ne (by omega) | exact decide_eq_false (by omega) | (show _ = true; simp; done) | (show _ = true; simp; omega) | (show _ = false; simp; done) | (show _ = false; simp; omega)), ob⟩
      ·
        have ⟨t0, c0, c1, c2, c3, c4, c5, c6, c7, c8, c9⟩ := T
        go_wp2_with fail
        clear t0 c0 c1 c2 c3 c4 c5 c6 c7 c8 c9
        refine (l6kid_any ⟨np, pm, pa, pc⟩ ⟨⟨9, frm, tto, line, op, num, flt, text, nn, nm, 3, kd⟩, na, nc, ka, kc⟩ 2 _ hn (by dsimp only; omega) hk (hr 2 (by omega)).1 (hr 2 (by omega)).2 (TM.At.onw ob ht) (hm.2.onw ob)).mono ?_
        rintro e w1 ⟨rfl, O1⟩
        replace T := T.onw O1
        replace ob := ob.trans O1
        clear O1
        obtain ⟨q3, hq3⟩ : ∃ q, kidP (pdOf pm) (⟨9, frm, tto, line, op, num, flt, text, nn, nm, 3, kd⟩ : PD) 2 = q := ⟨_, rfl⟩
        rw [hq3]
        by_cases y3 : q3 = 1
        · have x3 : Hid ((kidP (pdOf pm) (⟨9, frm, tto, line, op, num, flt, text, nn, nm, 3, kd⟩ : PD) 2 == 1) = true) := by show _ = _; rw [hq3, y3]; rfl
          subst y3; clear hq3
          have ⟨t0, c0, c1, c2, c3, c4, c5, c6, c7, c8, c9⟩ := T
          go_wp2_with fail
          clear t0 c0 c1 c2 c3 c4 c5 c6 c7 c8 c9
          go_ret
          exact ⟨ret_bool (by rw [x0.out, x1.out, x2.out, x3.out] <;> first | rfl | exact beq_false_of_ne (by assumption) | exact beq_false_of_ne (by omega) | exact decide_eq_false (by omega) | (show _ = true; simp; done) | (show _ = true; simp; omega) | (show _ = false; simp; done) | (show _ = false; simp; omega)), ob⟩
        · have x3 : Hid ((kidP (pdOf pm) (⟨9, frm, tto, line, op, num, flt, text, nn, nm, 3, kd⟩ : PD) 2 == 1) = false) := by show _ = _; rw [hq3]; exact beq_false_of_ne y3
          clear hq3
          obtain ⟨t0, c0, c1, c2, c3, c4, c5, c6, c7, c8, c9⟩ := T
          go_wp2_with fail
          go_ret
          exact ⟨ret_bool (by rw [x0.out, x1.out, x2.out, x3.out] <;> first | rfl | exact beq_false_of_ne (by assumption) | exact beq_false_of_ne (by omega) | exact decide_eq_false (by omega) | (show _ = true; simp; done) | (show _ = true; simp; omega) | (show _ = false; simp; done) | (show _ = false; simp; omega)), ob⟩

set_option maxRecDepth 100000 in
set_option maxHeartbeats 2000000 in
theorem st9_4 (H : Prm w np pm pa pc ⟨⟨9, frm, tto, line, op, num, flt, text, nn, nm, 4, kd⟩, na, nc, ka, kc⟩) :
    Calls Try.prog 22 #[.agg #[.slice pa np pc], .agg #[.int .i64 9, .int .i64 frm, .int .i64 tto, .int .i64 line, .int .i64 op, .int .i64 num, .float .f64 flt, .string text, .slice na nn nc, .slice ka 4 kc]] w fun e w' => e = .returned (.bool (((bareP (⟨9, frm, tto, line, op, num, flt, text, nn, nm, 4, kd⟩ : PD) false false false true) && ((namedP (⟨9, frm, tto, line, op, num, flt, text, nn, nm, 4, kd⟩ : PD) 1 1) && ((exprsP (pdOf pm) (⟨9, frm, tto, line, op, num, flt, text, nn, nm, 4, kd⟩ : PD) 0 3) && (kidP (pdOf pm) (⟨9, frm, tto, line, op, num, flt, text, nn, nm, 4, kd⟩ : PD) 3 == 1)))))) ∧ Onw w w' := by
  obtain ⟨hn, hk, hnn, htx, hr, hz, ht, hm⟩ := H
  dsimp only at hk hnn htx hr hz
  have T := Two.new w pa np pc 9 frm tto line op num flt text na nn nc ka 4 kc
  have ob := Two.start w pa np pc 9 frm tto line op num flt text na nn nc ka 4 kc
  go_enter Try.func22, Try.ntmps22
  go_wp2_with fail
  refine (l6bare_any ⟨⟨9, frm, tto, line, op, num, flt, text, nn, nm, 4, kd⟩, na, nc, ka, kc⟩ _ false false false true (by decide)).mono ?_
  rintro e w1 ⟨rfl, O1⟩
  replace T := T.onw O1
  replace ob := ob.trans O1
  clear O1
  obtain ⟨q0, hq0⟩ : ∃ q, bareP (⟨9, frm, tto, line, op, num, flt, text, nn, nm, 4, kd⟩ : PD) false false false true = q := ⟨_, rfl⟩
  rw [hq0]
  have x0 : Hid _ := hq0
  clear hq0
  cases q0
  ·
    obtain ⟨t0, c0, c1, c2, c3, c4, c5, c6, c7, c8, c9⟩ := T
    go_wp2_with fail
    go_ret
    exact ⟨ret_bool (by rw [x0.out] <;> first | rfl | exact beq_false_of_ne (by assumption) | exact beq_false_of_ne (by omega) | exact decide_eq_false (by omega) | (show _ = true; simp; done) | (show _ = true; simp; omega) | (show _ = false; simp; done) | (show _ = false; simp; omega)), ob⟩
  ·
    have ⟨t0, c0, c1, c2, c3, c4, c5, c6, c7, c8, c9⟩ := T
    go_wp2_with fail
    clear t0 c0 c1 c2 c3 c4 c5 c6 c7 c8 c9
    refine (l6named_any ⟨⟨9, frm, tto, line, op, num, flt, text, nn, nm, 4, kd⟩, na, nc, ka, kc⟩ 1 1 _ hnn hz (hm.1.onw ob)).mono ?_
    rintro e w1 ⟨rfl, O1⟩
    replace T := T.onw O1
    replace ob := ob.trans O1
    clear O1
    obtain ⟨q1, hq1⟩ : ∃ q, namedP (⟨9, frm, tto, line, op, num, flt, text, nn, nm, 4, kd⟩ : PD) 1 1 = q := ⟨_, rfl⟩
    rw [hq1]
    have x1 : Hid _ := hq1
    clear hq1
    cases q1
    ·
      obtain ⟨t0, c0, c1, c2, c3, c4, c5, c6, c7, c8, c9⟩ := T
      go_wp2_with fail
      go_ret
      exact ⟨ret_bool (by rw [x0.out, x1.out] <;> first | rfl | exact beq_false_of_ne (by assumption) | exact beq_false_of_ne (by omega) | exact decide_eq_false (by omega) | (show _ = true; simp; done) | (show _ = true; simp; omega) | (show _ = false; simp; done) | (show _ = false; simp; omega)), ob⟩
    ·
      have ⟨t0, c0, c1, c2, c3, c4, c5, c6, c7, c8, c9⟩ := T
      go_wp2_with fail
      clear t0 c0 c1 c2 c3 c4 c5 c6 c7 c8 c9
      refine (l6exprs_any ⟨np, pm, pa, pc⟩ ⟨⟨9, frm, tto, line, op, num, flt, text, nn, nm, 4, kd⟩, na, nc, ka, kc⟩ 0 3 _ hn (by omega) (by dsimp only; omega) hk hr (TM.At.onw ob ht) (hm.2.onw ob)).mono ?_
      rintro e w1 ⟨rfl, O1⟩
      replace T := T.onw O1
      replace ob := ob.trans O1
      clear O1
      obtain ⟨q2, hq2⟩ : ∃ q, exprsP (pdOf pm) (⟨9, frm, tto, line, op, num, flt, text, nn, nm, 4, kd⟩ : PD) 0 3 = q := ⟨_, rfl⟩
      rw [hq2]
      have x2 : Hid _ := hq2
      clear hq2
      cases q2
      ·
        obtain ⟨t0, c0, c1, c2, c3, c4, c5, c6, c7, c8, c9⟩ := T
        go_wp2_with fail
        go_ret
        exact ⟨ret_bool (by rw [x0.out, x1.out, x2.out] <;> first | rfl | exact beq_false_of_ne (by assumption) | exact beq_false_of_ne (by omega) | exact decide_eq_false (by omega) | (show _ = true; simp; done) | (show _ = true; simp; omega) | (show _ = false; simp; done) | (show _ = false; simp; omega)), ob⟩
      ·
        have ⟨t0, c0, c1, c2, c3, c4, c5, c6, c7, c8, c9⟩ := T
        go_wp2_with fail
        clear t0 c0 c1 c2 c3 c4 c5 c6 c7 c8 c9
        refine (l6kid_any ⟨np, pm, pa, pc⟩ ⟨⟨9, frm, tto, line, op, num, flt, text, nn, nm, 4, kd⟩, na, nc, ka, kc⟩ 3 _ hn (by dsimp only; omega) hk (hr 3 (by omega)).1 (hr 3 (by omega)).2 (TM.At.onw ob ht) (hm.2.onw ob)).mono ?_
        rintro e w1 ⟨rfl, O1⟩
        replace T := T.onw O1
        replace ob := ob.trans O1
        clear O1
        obtain ⟨q3, hq3⟩ : ∃ q, kidP (pdOf pm) (⟨9, frm, tto, line, op, num, flt, text, nn, nm, 4, kd⟩ : PD) 3 = q := ⟨_, rfl⟩
        rw [hq3]
        by_cases y3 : q3 = 1
        · have x3 : Hid ((kidP (pdOf pm) (⟨9, frm, tto, line, op, num, flt, text, nn, nm, 4, kd⟩ : PD) 3 == 1) = true) := by show _ = _; rw [hq3, y3]; rfl
          subst y3; clear hq3
          have ⟨t0, c0, c1, c2, c3, c4, c5, c6, c7, c8, c9⟩ := T
          go_wp2_with fail
          clear t0 c0 c1 c2 c3 c4 c5 c6 c7 c8 c9
          go_ret
          exact ⟨ret_bool (by rw [x0.out, x1.out, x2.out, x3.out] <;> first | rfl | exact beq_false_of_ne (by assumption) | exact beq_false_of_ne (by omega) | exact decide_eq_false (by omega) | (show _ = true; simp; done) | (show _ = true; simp; omega) | (show _ = false; simp; done) | (show _ = false; simp; omega)), ob⟩
        · have x3 : Hid ((kidP (pdOf pm) (⟨9, frm, tto, line, op, num, flt, text, nn, nm, 4, kd⟩ : PD) 3 == 1) = false) := by show _ = _; rw [hq3]; exact beq_false_of_ne y3
          clear hq3
          obtain ⟨t0, c0, c1, c2, c3, c4, c5, c6, c7, c8, c9⟩ := T
          go_wp2_with fail
          go_ret
          exact ⟨ret_bool (by rw [x0.out, x1.out, x2.out, x3.out] <;> first | rfl | exact beq_false_of_ne (by assumption) | exact beq_false_of_ne (by omega) | exact decide_eq_false (by omega) | (show _ = true; simp; done) | (show _ = true; simp; omega) | (show _ = false; simp; done) | (show _ = false; simp; omega)), ob⟩

set_option maxRecDepth 100000 in
set_option maxHeartbeats 2000000 in
theorem st9_no (hne : nk ≠ 3) (hne' : nk ≠ 4) (H : Prm w np pm pa pc ⟨⟨9, frm, tto, line, op, num, flt, text, nn, nm, nk, kd⟩, na, nc, ka, kc⟩) :
    Calls Try.prog 22 #[.agg #[.slice pa np pc], .agg #[.int .i64 9, .int .i64 frm, .int .i64 tto, .int .i64 line, .int .i64 op, .int .i64 num, .float .f64 flt, .string text, .slice na nn nc, .slice ka nk kc]] w fun e w' => e = .returned (.bool false) ∧ Onw w w' := by
  obtain ⟨hn, hk, hnn, htx, hr, hz, ht, hm⟩ := H
  dsimp only at hk hnn htx hr hz
  have T := Two.new w pa np pc 9 frm tto line op num flt text na nn nc ka nk kc
  have ob := Two.start w pa np pc 9 frm tto line op num flt text na nn nc ka nk kc
  go_enter Try.func22, Try.ntmps22
  go_wp2_with fail
  refine (l6bare_any ⟨⟨9, frm, tto, line, op, num, flt, text, nn, nm, nk, kd⟩, na, nc, ka, kc⟩ _ false false false true (by decide)).mono ?_
  rintro e w1 ⟨rfl, O1⟩
  replace T := T.onw O1
  replace ob := ob.trans O1
  clear O1
  obtain ⟨q0, hq0⟩ : ∃ q, bareP (⟨9, frm, tto, line, op, num, flt, text, nn, nm, nk, kd⟩ : PD) false false false true = q := ⟨_, rfl⟩
  rw [hq0]
  have x0 : Hid _ := hq0
  clear hq0
  cases q0
  ·
    obtain ⟨t0, c0, c1, c2, c3, c4, c5, c6, c7, c8, c9⟩ := T
    go_wp2_with fail
    go_ret
    exact ⟨ret_bool (by first | rfl | exact beq_false_of_ne (by assumption) | exact beq_false_of_ne (by omega) | exact decide_eq_false (by omega) | (show _ = true; simp; done) | (show _ = true; simp; omega) | (show _ = false; simp; done) | (show _ = false; simp; omega)), ob⟩
  ·
    have ⟨t0, c0, c1, c2, c3, c4, c5, c6, c7, c8, c9⟩ := T
    go_wp2_with fail
    clear t0 c0 c1 c2 c3 c4 c5 c6 c7 c8 c9
    refine (l6named_any ⟨⟨9, frm, tto, line, op, num, flt, text, nn, nm, nk, kd⟩, na, nc, ka, kc⟩ 1 1 _ hnn hz (hm.1.onw ob)).mono ?_
    rintro e w1 ⟨rfl, O1⟩
    replace T := T.onw O1
    replace ob := ob.trans O1
    clear O1
    obtain ⟨q1, hq1⟩ : ∃ q, namedP (⟨9, frm, tto, line, op, num, flt, text, nn, nm, nk, kd⟩ : PD) 1 1 = q := ⟨_, rfl⟩
    rw [hq1]
    have x1 : Hid _ := hq1
    clear hq1
    cases q1
    ·
      obtain ⟨t0, c0, c1, c2, c3, c4, c5, c6, c7, c8, c9⟩ := T
      go_wp2_with fail
      go_ret
      exact ⟨ret_bool (by first | rfl | exact beq_false_of_ne (by assumption) | exact beq_false_of_ne (by omega) | exact decide_eq_false (by omega) | (show _ = true; simp; done) | (show _ = true; simp; omega) | (show _ = false; simp; done) | (show _ = false; simp; omega)), ob⟩
    ·
      have ⟨t0, c0, c1, c2, c3, c4, c5, c6, c7, c8, c9⟩ := T
      go_wp2_with fail
      clear t0 c0 c1 c2 c3 c4 c5 c6 c7 c8 c9
      go_ret
      exact ⟨ret_bool (by first | rfl | exact beq_false_of_ne (by assumption) | exact beq_false_of_ne (by omega) | exact decide_eq_false (by omega) | (show _ = true; simp; done) | (show _ = true; simp; omega) | (show _ = false; simp; done) | (show _ = false; simp; omega)), ob⟩

set_option maxRecDepth 100000 in
set_option maxHeartbeats 2000000 in
theorem st7_2 (H : Prm w np pm pa pc ⟨⟨7, frm, tto, line, op, num, flt, text, nn, nm, 2, kd⟩, na, nc, ka, kc⟩) :
    Calls Try.prog 22 #[.agg #[.slice pa np pc], .agg #[.int .i64 7, .int .i64 frm, .int .i64 tto, .int .i64 line, .int .i64 op, .int .i64 num, .float .f64 flt, .string text, .slice na nn nc, .slice ka 2 kc]] w fun e w' => e = .returned (.bool (((bareP (⟨7, frm, tto, line, op, num, flt, text, nn, nm, 2, kd⟩ : PD) false false false false) && ((exprsP (pdOf pm) (⟨7, frm, tto, line, op, num, flt, text, nn, nm, 2, kd⟩ : PD) 0 1) && (kidP (pdOf pm) (⟨7, frm, tto, line, op, num, flt, text, nn, nm, 2, kd⟩ : PD) 1 == 1))))) ∧ Onw w w' := by
  obtain ⟨hn, hk, hnn, htx, hr, hz, ht, hm⟩ := H
  dsimp only at hk hnn htx hr hz
  have T := Two.new w pa np pc 7 frm tto line op num flt text na nn nc ka 2 kc
  have ob := Two.start w pa np pc 7 frm tto line op num flt text na nn nc ka 2 kc
  go_enter Try.func22, Try.ntmps22
  go_wp2_with fail
  refine (l6bare_any ⟨⟨7, frm, tto, line, op, num, flt, text, nn, nm, 2, kd⟩, na, nc, ka, kc⟩ _ false false false false (by decide)).mono ?_
  rintro e w1 ⟨rfl, O1⟩
  replace T := T.onw O1
  replace ob := ob.trans O1
  clear O1
  obtain ⟨q0, hq0⟩ : ∃ q, bareP (⟨7, frm, tto, line, op, num, flt, text, nn, nm, 2, kd⟩ : PD) false false false false = q := ⟨_, rfl⟩
  rw [hq0]
  have x0 : Hid _ := hq0
  clear hq0
  cases q0
  ·
    obtain ⟨t0, c0, c1, c2, c3, c4, c5, c6, c7, c8, c9⟩ := T
    go_wp2_with fail
    go_ret
    exact ⟨ret_bool (by rw [x0.out] <;> first | rfl | exact beq_false_of_ne (by assumption) | exact beq_false_of_ne (by omega) | exact decide_eq_false (by omega) | (show _ = true; simp; done) | (show _ = true; simp; omega) | (show _ = false; simp; done) | (show _ = false; simp; omega)), ob⟩
  ·
    have ⟨t0, c0, c1, c2, c3, c4, c5, c6, c7, c8, c9⟩ := T
    go_wp2_with fail
    clear t0 c0 c1 c2 c3 c4 c5 c6 c7 c8 c9
    refine (l6exprs_any ⟨np, pm, pa, pc⟩ ⟨⟨7, frm, tto, line, op, num, flt, text, nn, nm, 2, kd⟩, na, nc, ka, kc⟩ 0 1 _ hn (by omega) (by dsimp only; omega) hk hr (TM.At.onw ob ht) (hm.2.onw ob)).mono ?_
    rintro e w1 ⟨rfl, O1⟩
    replace T := T.onw O1
    replace ob := ob.trans O1
    clear O1
    obtain ⟨q1, hq1⟩ : ∃ q, exprsP (pdOf pm) (⟨7, frm, tto, line, op, num, flt, text, nn, nm, 2, kd⟩ : PD) 0 1 = q := ⟨_, rfl⟩
    rw [hq1]
    have x1 : Hid _ := hq1
    clear hq1
    cases q1
    ·
      obtain ⟨t0, c0, c1, c2, c3, c4, c5, c6, c7, c8, c9⟩ := T
      go_wp2_with fail
      go_ret
      exact ⟨ret_bool (by rw [x0.out, x1.out] <;> first | rfl | exact beq_false_of_ne (by assumption) | exact beq_false_of_ne (by omega) | exact decide_eq_false (by omega) | (show _ = true; simp; done) | (show _ = true; simp; omega) | (show _ = false; simp; done) | (show _ = false; simp; omega)), ob⟩
    ·
      have ⟨t0, c0, c1, c2, c3, c4, c5, c6, c7, c8, c9⟩ := T
      go_wp2_with fail
      clear t0 c0 c1 c2 c3 c4 c5 c6 c7 c8 c9
      refine (l6kid_any ⟨np, pm, pa, pc⟩ ⟨⟨7, frm, tto, line, op, num, flt, text, nn, nm, 2, kd⟩, na, nc, ka, kc⟩ 1 _ hn (by dsimp only; omega) hk (hr 1 (by omega)).1 (hr 1 (by omega)).2 (TM.At.onw ob ht) (hm.2.onw ob)).mono ?_
      rintro e w1 ⟨rfl, O1⟩
      replace T := T.onw O1
      replace ob := ob.trans O1
      clear O1
      obtain ⟨q2, hq2⟩ : ∃ q, kidP (pdOf pm) (⟨7, frm, tto, line, op, num, flt, text, nn, nm, 2, kd⟩ : PD) 1 = q := ⟨_, rfl⟩
      rw [hq2]
      by_cases y2 : q2 = 1
      · have x2 : Hid ((kidP (pdOf pm) (⟨7, frm, tto, line, op, num, flt, text, nn, nm, 2, kd⟩ : PD) 1 == 1) = true) := by show _ = _; rw [hq2, y2]; rfl
        subst y2; clear hq2
        have ⟨t0, c0, c1, c2, c3, c4, c5, c6, c7, c8, c9⟩ := T
        go_wp2_with fail
        clear t0 c0 c1 c2 c3 c4 c5 c6 c7 c8 c9
        go_ret
        exact ⟨ret_bool (by rw [x0.out, x1.out, x2.out] <;> first | rfl | exact beq_false_of_ne (by assumption) | exact beq_false_of_ne (by omega) | exact decide_eq_false (by omega) | (show _ = true; simp; done) | (show _ = true; simp; omega) | (show _ = false; simp; done) | (show _ = false; simp; omega)), ob⟩
      · have x2 : Hid ((kidP (pdOf pm) (⟨7, frm, tto, line, op, num, flt, text, nn, nm, 2, kd⟩ : PD) 1 == 1) = false) := by show _ = _; rw [hq2]; exact beq_false_of_ne y2
        clear hq2
        obtain ⟨t0, c0, c1, c2, c3, c4, c5, c6, c7, c8, c9⟩ := T
        go_wp2_with fail
        go_ret
        exact ⟨ret_bool (by rw [x0.out, x1.out, x2.out] <;> first | rfl | exact beq_false_of_ne (by assumption) | exact beq_false_of_ne (by omega) | exact decide_eq_false (by omega) | (show _ = true; simp; done) | (show _ = true; simp; omega) | (show _ = false; simp; done) | (show _ = false; simp; omega)), ob⟩

set_option maxRecDepth 100000 in
set_option maxHeartbeats 2000000 in
theorem st7_3a (hq : kidP (pdOf pm) (⟨7, frm, tto, line, op, num, flt, text, nn, nm, 3, kd⟩ : PD) 2 = 1) (H : Prm w np pm pa pc ⟨⟨7, frm, tto, line, op, num, flt, text, nn, nm, 3, kd⟩, na, nc, ka, kc⟩) :
    Calls Try.prog 22 #[.agg #[.slice pa np pc], .agg #[.int .i64 7, .int .i64 frm, .int .i64 tto, .int .i64 line, .int .i64 op, .int .i64 num, .float .f64 flt, .string text, .slice na nn nc, .slice ka 3 kc]] w fun e w' => e = .returned (.bool (((bareP (⟨7, frm, tto, line, op, num, flt, text, nn, nm, 3, kd⟩ : PD) false false false false) && ((exprsP (pdOf pm) (⟨7, frm, tto, line, op, num, flt, text, nn, nm, 3, kd⟩ : PD) 0 1) && (kidP (pdOf pm) (⟨7, frm, tto, line, op, num, flt, text, nn, nm, 3, kd⟩ : PD) 1 == 1))))) ∧ Onw w w' := by
  obtain ⟨hn, hk, hnn, htx, hr, hz, ht, hm⟩ := H
  dsimp only at hk hnn htx hr hz
  have T := Two.new w pa np pc 7 frm tto line op num flt text na nn nc ka 3 kc
  have ob := Two.start w pa np pc 7 frm tto line op num flt text na nn nc ka 3 kc
  go_enter Try.func22, Try.ntmps22
  go_wp2_with fail
  refine (l6bare_any ⟨⟨7, frm, tto, line, op, num, flt, text, nn, nm, 3, kd⟩, na, nc, ka, kc⟩ _ false false false false (by decide)).mono ?_
  rintro e w1 ⟨rfl, O1⟩
  replace T := T.onw O1
  replace ob := ob.trans O1
  clear O1
  obtain ⟨q0, hq0⟩ : ∃ q, bareP (⟨7, frm, tto, line, op, num, flt, text, nn, nm, 3, kd⟩ : PD) false false false false = q := ⟨_, rfl⟩
  rw [hq0]
  have x0 : Hid _ := hq0
  clear hq0
  cases q0
  ·
    obtain ⟨t0, c0, c1, c2, c3, c4, c5, c6, c7, c8, c9⟩ := T
    go_wp2_with fail
    go_ret
    exact ⟨ret_bool (by rw [x0.out] <;> first | rfl | exact beq_false_of_ne (by assumption) | exact beq_false_of_ne (by omega) | exact decide_eq_false (by omega) | (show _ = true; simp; done) | (show _ = true; simp; omega) | (show _ = false; simp; done) | (show _ = false; simp; omega)), ob⟩
  ·
    have ⟨t0, c0, c1, c2, c3, c4, c5, c6, c7, c8, c9⟩ := T
    go_wp2_with fail
    clear t0 c0 c1 c2 c3 c4 c5 c6 c7 c8 c9
    refine (l6exprs_any ⟨np, pm, pa, pc⟩ ⟨⟨7, frm, tto, line, op, num, flt, text, nn, nm, 3, kd⟩, na, nc, ka, kc⟩ 0 1 _ hn (by omega) (by dsimp only; omega) hk hr (TM.At.onw ob ht) (hm.2.onw ob)).mono ?_
    rintro e w1 ⟨rfl, O1⟩
    replace T := T.onw O1
    replace ob := ob.trans O1
    clear O1
    obtain ⟨q1, hq1⟩ : ∃ q, exprsP (pdOf pm) (⟨7, frm, tto, line, op, num, flt, text, nn, nm, 3, kd⟩ : PD) 0 1 = q := ⟨_, rfl⟩
    rw [hq1]
    have x1 : Hid _ := hq1
    clear hq1
    cases q1
    ·
      obtain ⟨t0, c0, c1, c2, c3, c4, c5, c6, c7, c8, c9⟩ := T
      go_wp2_with fail
      go_ret
      exact ⟨ret_bool (by rw [x0.out, x1.out] <;> first | rfl | exact beq_false_of_ne (by assumption) | exact beq_false_of_ne (by omega) | exact decide_eq_false (by omega) | (show _ = true; simp; done) | (show _ = true; simp; omega) | (show _ = false; simp; done) | (show _ = false; simp; omega)), ob⟩
    ·
      have ⟨t0, c0, c1, c2, c3, c4, c5, c6, c7, c8, c9⟩ := T
      go_wp2_with fail
      clear t0 c0 c1 c2 c3 c4 c5 c6 c7 c8 c9
      refine (l6kid_any ⟨np, pm, pa, pc⟩ ⟨⟨7, frm, tto, line, op, num, flt, text, nn, nm, 3, kd⟩, na, nc, ka, kc⟩ 1 _ hn (by dsimp only; omega) hk (hr 1 (by omega)).1 (hr 1 (by omega)).2 (TM.At.onw ob ht) (hm.2.onw ob)).mono ?_
      rintro e w1 ⟨rfl, O1⟩
      replace T := T.onw O1
      replace ob := ob.trans O1
      clear O1
      obtain ⟨q2, hq2⟩ : ∃ q, kidP (pdOf pm) (⟨7, frm, tto, line, op, num, flt, text, nn, nm, 3, kd⟩ : PD) 1 = q := ⟨_, rfl⟩
      rw [hq2]
      by_cases y2 : q2 = 1
      · have x2 : Hid ((kidP (pdOf pm) (⟨7, frm, tto, line, op, num, flt, text, nn, nm, 3, kd⟩ : PD) 1 == 1) = true) := by show _ = _; rw [hq2, y2]; rfl
        subst y2; clear hq2
        have ⟨t0, c0, c1, c2, c3, c4, c5, c6, c7, c8, c9⟩ := T
        go_wp2_with fail
        clear t0 c0 c1 c2 c3 c4 c5 c6 c7 c8 c9
        refine (l6kid_any ⟨np, pm, pa, pc⟩ ⟨⟨7, frm, tto, line, op, num, flt, text, nn, nm, 3, kd⟩, na, nc, ka, kc⟩ 2 _ hn (by dsimp only; omega) hk (hr 2 (by omega)).1 (hr 2 (by omega)).2 (TM.At.onw ob ht) (hm.2.onw ob)).mono ?_
        rintro e w1 ⟨rfl, O1⟩
        replace T := T.onw O1
        replace ob := ob.trans O1
        clear O1
        rw [hq]
        have ⟨t0, c0, c1, c2, c3, c4, c5, c6, c7, c8, c9⟩ := T
        go_wp2_with fail
        clear t0 c0 c1 c2 c3 c4 c5 c6 c7 c8 c9
        go_ret
        exact ⟨ret_bool (by rw [x0.out, x1.out, x2.out] <;> first | rfl | exact beq_false_of_ne (by assumption) | exact beq_false_of_ne (by omega) | exact decide_eq_false (by omega) | (show _ = true; simp; done) | (show _ = true; simp; omega) | (show _ = false; simp; done) | (show _ = false; simp; omega)), ob⟩
      · have x2 : Hid ((kidP (pdOf pm) (⟨7, frm, tto, line, op, num, flt, text, nn, nm, 3, kd⟩ : PD) 1 == 1) = false) := by show _ = _; rw [hq2]; exact beq_false_of_ne y2
        clear hq2
        obtain ⟨t0, c0, c1, c2, c3, c4, c5, c6, c7, c8, c9⟩ := T
        go_wp2_with fail
        go_ret
        exact ⟨ret_bool (by rw [x0.out, x1.out, x2.out] <;> first | rfl | exact beq_false_of_ne (by assumption) | exact beq_false_of_ne (by omega) | exact decide_eq_false (by omega) | (show _ = true; simp; done) | (show _ = true; simp; omega) | (show _ = false; simp; done) | (show _ = false; simp; omega)), ob⟩

set_option maxRecDepth 100000 in
set_option maxHeartbeats 2000000 in
theorem st7_3b (hq : kidP (pdOf pm) (⟨7, frm, tto, line, op, num, flt, text, nn, nm, 3, kd⟩ : PD) 2 = 7) (H : Prm w np pm pa pc ⟨⟨7, frm, tto, line, op, num, flt, text, nn, nm, 3, kd⟩, na, nc, ka, kc⟩) :
    Calls Try.prog 22 #[.agg #[.slice pa np pc], .agg #[.int .i64 7, .int .i64 frm, .int .i64 tto, .int .i64 line, .int .i64 op, .int .i64 num, .float .f64 flt, .string text, .slice na nn nc, .slice ka 3 kc]] w fun e w' => e = .returned (.bool (((bareP (⟨7, frm, tto, line, op, num, flt, text, nn, nm, 3, kd⟩ : PD) false false false false) && ((exprsP (pdOf pm) (⟨7, frm, tto, line, op, num, flt, text, nn, nm, 3, kd⟩ : PD) 0 1) && (kidP (pdOf pm) (⟨7, frm, tto, line, op, num, flt, text, nn, nm, 3, kd⟩ : PD) 1 == 1))))) ∧ Onw w w' := by
  obtain ⟨hn, hk, hnn, htx, hr, hz, ht, hm⟩ := H
  dsimp only at hk hnn htx hr hz
  have T := Two.new w pa np pc 7 frm tto line op num flt text na nn nc ka 3 kc
  have ob := Two.start w pa np pc 7 frm tto line op num flt text na nn nc ka 3 kc
  go_enter Try.func22, Try.ntmps22
  go_wp2_with fail
  refine (l6bare_any ⟨⟨7, frm, tto, line, op, num, flt, text, nn, nm, 3, kd⟩, na, nc, ka, kc⟩ _ false false false false (by decide)).mono ?_
  rintro e w1 ⟨rfl, O1⟩
  replace T := T.onw O1
  replace ob := ob.trans O1
  clear O1
  obtain ⟨q0, hq0⟩ : ∃ q, bareP (⟨7, frm, tto, line, op, num, flt, text, nn, nm, 3, kd⟩ : PD) false false false false = q := ⟨_, rfl⟩
  rw [hq0]
  have x0 : Hid _ := hq0
  clear hq0
  cases q0
  ·
    obtain ⟨t0, c0, c1, c2, c3, c4, c5, c6, c7, c8, c9⟩ := T
    go_wp2_with fail
    go_ret
    exact ⟨ret_bool (by rw [x0.out] <;> first | rfl | exact beq_false_of_ne (by assumption) | exact beq_false_of_ne (by omega) | exact decide_eq_false (by omega) | (show _ = true; simp; done) | (show _ = true; simp; omega) | (show _ = false; simp; done) | (show _ = false; simp; omega)), ob⟩
  ·
    have ⟨t0, c0, c1, c2, c3, c4, c5, c6, c7, c8, c9⟩ := T
    go_wp2_with fail
    clear t0 c0 c1 c2 c3 c4 c5 c6 c7 c8 c9
    refine (l6exprs_any ⟨np, pm, pa, pc⟩ ⟨⟨7, frm, tto, line, op, num, flt, text, nn, nm, 3, kd⟩, na, nc, ka, kc⟩ 0 1 _ hn (by omega) (by dsimp only; omega) hk hr (TM.At.onw ob ht) (hm.2.onw ob)).mono ?_
    rintro e w1 ⟨rfl, O1⟩
    replace T := T.onw O1
    replace ob := ob.trans O1
    clear O1
    obtain ⟨q1, hq1⟩ : ∃ q, exprsP (pdOf pm) (⟨7, frm, tto, line, op, num, flt, text, nn, nm, 3, kd⟩ : PD) 0 1 = q := ⟨_, rfl⟩
    rw [hq1]
    have x1 : Hid _ := hq1
    clear hq1
    cases q1
    ·
      obtain ⟨t0, c0, c1, c2, c3, c4, c5, c6, c7, c8, c9⟩ := T
      go_wp2_with fail
      go_ret
      exact ⟨ret_bool (by rw [x0.out, x1.out] <;> first | rfl | exact beq_false_of_ne (by assumption) | exact beq_false_of_ne (by omega) | exact decide_eq_false (by omega) | (show _ = true; simp; done) | (show _ = true; simp; omega) | (show _ = false; simp; done) | (show _ = false; simp; omega)), ob⟩
    ·
      have ⟨t0, c0, c1, c2, c3, c4, c5, c6, c7, c8, c9⟩ := T
      go_wp2_with fail
      clear t0 c0 c1 c2 c3 c4 c5 c6 c7 c8 c9
      refine (l6kid_any ⟨np, pm, pa, pc⟩ ⟨⟨7, frm, tto, line, op, num, flt, text, nn, nm, 3, kd⟩, na, nc, ka, kc⟩ 1 _ hn (by dsimp only; omega) hk (hr 1 (by omega)).1 (hr 1 (by omega)).2 (TM.At.onw ob ht) (hm.2.onw ob)).mono ?_
      rintro e w1 ⟨rfl, O1⟩
      replace T := T.onw O1
      replace ob := ob.trans O1
      clear O1
      obtain ⟨q2, hq2⟩ : ∃ q, kidP (pdOf pm) (⟨7, frm, tto, line, op, num, flt, text, nn, nm, 3, kd⟩ : PD) 1 = q := ⟨_, rfl⟩
      rw [hq2]
      by_cases y2 : q2 = 1
      · have x2 : Hid ((kidP (pdOf pm) (⟨7, frm, tto, line, op, num, flt, text, nn, nm, 3, kd⟩ : PD) 1 == 1) = true) := by show _ = _; rw [hq2, y2]; rfl
        subst y2; clear hq2
        have ⟨t0, c0, c1, c2, c3, c4, c5, c6, c7, c8, c9⟩ := T
        go_wp2_with fail
        clear t0 c0 c1 c2 c3 c4 c5 c6 c7 c8 c9
        refine (l6kid_any ⟨np, pm, pa, pc⟩ ⟨⟨7, frm, tto, line, op, num, flt, text, nn, nm, 3, kd⟩, na, nc, ka, kc⟩ 2 _ hn (by dsimp only; omega) hk (hr 2 (by omega)).1 (hr 2 (by omega)).2 (TM.At.onw ob ht) (hm.2.onw ob)).mono ?_
        rintro e w1 ⟨rfl, O1⟩
        replace T := T.onw O1
        replace ob := ob.trans O1
        clear O1
        rw [hq]
        have ⟨t0, c0, c1, c2, c3, c4, c5, c6, c7, c8, c9⟩ := T
        go_wp2_with fail
        clear t0 c0 c1 c2 c3 c4 c5 c6 c7 c8 c9
        refine (l6kid_any ⟨np, pm, pa, pc⟩ ⟨⟨7, frm, tto, line, op, num, flt, text, nn, nm, 3, kd⟩, na, nc, ka, kc⟩ 2 _ hn (by dsimp only; omega) hk (hr 2 (by omega)).1 (hr 2 (by omega)).2 (TM.At.onw ob ht) (hm.2.onw ob)).mono ?_
        rintro e w1 ⟨rfl, O1⟩
        replace T := T.onw O1
        replace ob := ob.trans O1
        clear O1
        rw [hq]
        have ⟨t0, c0, c1, c2, c3, c4, c5, c6, c7, c8, c9⟩ := T
        go_wp2_with fail
        clear t0 c0 c1 c2 c3 c4 c5 c6 c7 c8 c9
        go_ret
        exact ⟨ret_bool (by rw [x0.out, x1.out, x2.out] <;> first | rfl | exact beq_false_of_ne (by assumption) | exact beq_false_of_ne (by omega) | exact decide_eq_false (by omega) | (show _ = true; simp; done) | (show _ = true; simp; omega) | (show _ = false; simp; done) | (show _ = false; simp; omega)), ob⟩
      · have x2 : Hid ((kidP (pdOf pm) (⟨7, frm, tto, line, op, num, flt, text, nn, nm, 3, kd⟩ : PD) 1 == 1) = false) := by show _ = _; rw [hq2]; exact beq_false_of_ne y2
        clear hq2
        obtain ⟨t0, c0, c1, c2, c3, c4, c5, c6, c7, c8, c9⟩ := T
        go_wp2_with fail
        go_ret
        exact ⟨ret_bool (by rw [x0.out, x1.out, x2.out] <;> first | rfl | exact beq_false_of_ne (by assumption) | exact beq_false_of_ne (by omega) | exact decide_eq_false (by omega) | (show _ = true; simp; done) | (show _ = true; simp; omega) | (show _ = false; simp; done) | (show _ = false; simp; omega)), ob⟩
end Go.Proofs.Ytnokgdgikdgaeaa

namespace Go.Proofs.Ytnokgdgikdgaeaa
open Go.RowKit
attribute [local go_sem] run_store_float
variable (w : World) (np : Nat) (pm : Nat → PM) (pa : Option Addr) (pc : Nat) (frm tto line op num : Int) (flt : Nat) (text : ByteArray) (nn : Nat) (nm : Nat → ByteArray) (nk : Nat) (kd : Nat → Int) (na : Option Addr) (nc : Nat) (ka : Option Addr) (kc : Nat)

set_option maxRecDepth 100000 in
set_option maxHeartbeats 2000000 in
theorem st7_3c (q : Int) (hq : kidP (pdOf pm) (⟨7, frm, tto, line, op, num, flt, text, nn, nm, 3, kd⟩ : PD) 2 = q) (q1 : q ≠ 1) (q7 : q ≠ 7) (H : Prm w np pm pa pc ⟨⟨7, frm, tto, line, op, num, flt, text, nn, nm, 3, kd⟩, na, nc, ka, kc⟩) :
    Calls Try.prog 22 #[.agg #[.slice pa np pc], .agg #[.int .i64 7, .int .i64 frm, .int .i64 tto, .int .i64 line, .int .i64 op, .int .i64 num, .float .f64 flt, .string text, .slice na nn nc, .slice ka 3 kc]] w fun e w' => e = .returned (.bool false) ∧ Onw w w' := by
  obtain ⟨hn, hk, hnn, htx, hr, hz, ht, hm⟩ := H
  dsimp only at hk hnn htx hr hz
  have T := Two.new w pa np pc 7 frm tto line op num flt text na nn nc ka 3 kc
  have ob := Two.start w pa np pc 7 frm tto line op num flt text na nn nc ka 3 kc
  go_enter Try.func22, Try.ntmps22
  go_wp2_with fail
  refine (l6bare_any ⟨⟨7, frm, tto, line, op, num, flt, text, nn, nm, 3, kd⟩, na, nc, ka, kc⟩ _ false false false false (by decide)).mono ?_
  rintro e w1 ⟨rfl, O1⟩
  replace T := T.onw O1
  replace ob := ob.trans O1
  clear O1
  obtain ⟨q0, hq0⟩ : ∃ q, bareP (⟨7, frm, tto, line, op, num, flt, text, nn, nm, 3, kd⟩ : PD) false false false false = q := ⟨_, rfl⟩
  rw [hq0]
  have x0 : Hid _ := hq0
  clear hq0
  cases q0
  ·
    obtain ⟨t0, c0, c1, c2, c3, c4, c5, c6, c7, c8, c9⟩ := T
    go_wp2_with fail
    go_ret
    exact ⟨ret_bool (by first | rfl | exact beq_false_of_ne (by assumption) | exact beq_false_of_ne (by omega) | exact decide_eq_false (by omega) | (show _ = true; simp; done) | (show _ = true; simp; omega) | (show _ = false; simp; done) | (show _ = false; simp; omega)), ob⟩
  ·
    have ⟨t0, c0, c1, c2, c3, c4, c5, c6, c7, c8, c9⟩ := T
    go_wp2_with fail
    clear t0 c0 c1 c2 c3 c4 c5 c6 c7 c8 c9
    refine (l6exprs_any ⟨np, pm, pa, pc⟩ ⟨⟨7, frm, tto, line, op, num, flt, text, nn, nm, 3, kd⟩, na, nc, ka, kc⟩ 0 1 _ hn (by omega) (by dsimp only; omega) hk hr (TM.At.onw ob ht) (hm.2.onw ob)).mono ?_
    rintro e w1 ⟨rfl, O1⟩
    replace T := T.onw O1
    replace ob := ob.trans O1
    clear O1
    obtain ⟨q1, hq1⟩ : ∃ q, exprsP (pdOf pm) (⟨7, frm, tto, line, op, num, flt, text, nn, nm, 3, kd⟩ : PD) 0 1 = q := ⟨_, rfl⟩
    rw [hq1]
    have x1 : Hid _ := hq1
    clear hq1
    cases q1
    ·
      obtain ⟨t0, c0, c1, c2, c3, c4, c5, c6, c7, c8, c9⟩ := T
      go_wp2_with fail
      go_ret
      exact ⟨ret_bool (by first | rfl | exact beq_false_of_ne (by assumption) | exact beq_false_of_ne (by omega) | exact decide_eq_false (by omega) | (show _ = true; simp; done) | (show _ = true; simp; omega) | (show _ = false; simp; done) | (show _ = false; simp; omega)), ob⟩
    ·
      have ⟨t0, c0, c1, c2, c3, c4, c5, c6, c7, c8, c9⟩ := T
      go_wp2_with fail
      clear t0 c0 c1 c2 c3 c4 c5 c6 c7 c8 c9
      refine (l6kid_any ⟨np, pm, pa, pc⟩ ⟨⟨7, frm, tto, line, op, num, flt, text, nn, nm, 3, kd⟩, na, nc, ka, kc⟩ 1 _ hn (by dsimp only; omega) hk (hr 1 (by omega)).1 (hr 1 (by omega)).2 (TM.At.onw ob ht) (hm.2.onw ob)).mono ?_
      rintro e w1 ⟨rfl, O1⟩
      replace T := T.onw O1
      replace ob := ob.trans O1
      clear O1
      obtain ⟨q2, hq2⟩ : ∃ q, kidP (pdOf pm) (⟨7, frm, tto, line, op, num, flt, text, nn, nm, 3, kd⟩ : PD) 1 = q := ⟨_, rfl⟩
      rw [hq2]
      by_cases y2 : q2 = 1
      · have x2 : Hid ((kidP (pdOf pm) (⟨7, frm, tto, line, op, num, flt, text, nn, nm, 3, kd⟩ : PD) 1 == 1) = true) := by show _ = _; rw [hq2, y2]; rfl
        subst y2; clear hq2
        have ⟨t0, c0, c1, c2, c3, c4, c5, c6, c7, c8, c9⟩ := T
        go_wp2_with fail
        clear t0 c0 c1 c2 c3 c4 c5 c6 c7 c8 c9
        refine (l6kid_any ⟨np, pm, pa, pc⟩ ⟨⟨7, frm, tto, line, op, num, flt, text, nn, nm, 3, kd⟩, na, nc, ka, kc⟩ 2 _ hn (by dsimp only; omega) hk (hr 2 (by omega)).1 (hr 2 (by omega)).2 (TM.At.onw ob ht) (hm.2.onw ob)).mono ?_
        rintro e w1 ⟨rfl, O1⟩
        replace T := T.onw O1
        replace ob := ob.trans O1
        clear O1
        rw [hq]
        have ⟨t0, c0, c1, c2, c3, c4, c5, c6, c7, c8, c9⟩ := T
        go_wp2_with fail
        clear t0 c0 c1 c2 c3 c4 c5 c6 c7 c8 c9
        refine (l6kid_any ⟨np, pm, pa, pc⟩ ⟨⟨7, frm, tto, line, op, num, flt, text, nn, nm, 3, kd⟩, na, nc, ka, kc⟩ 2 _ hn (by dsimp only; omega) hk (hr 2 (by omega)).1 (hr 2 (by omega)).2 (TM.At.onw ob ht) (hm.2.onw ob)).mono ?_
        rintro e w1 ⟨rfl, O1⟩
        replace T := T.onw O1
        replace ob := ob.trans O1
        clear O1
        rw [hq]
        have ⟨t0, c0, c1, c2, c3, c4, c5, c6, c7, c8, c9⟩ := T
        go_wp2_with fail
        clear t0 c0 c1 c2 c3 c4 c5 c6 c7 c8 c9
        go_ret
        exact ⟨ret_bool (by first | rfl | exact beq_false_of_ne (by assumption) | exact beq_false_of_ne (by omega) | exact decide_eq_false (by omega) | (show _ = true; simp; done) | (show _ = true; simp; omega) | (show _ = false; simp; done) | (show _ = false; simp; omega)), ob⟩
      · have x2 : Hid ((kidP (pdOf pm) (⟨7, frm, tto, line, op, num, flt, text, nn, nm, 3, kd⟩ : PD) 1 == 1) = false) := by show _ = _; rw [hq2]; exact beq_false_of_ne y2
        clear hq2
        obtain ⟨t0, c0, c1, c2, c3, c4, c5, c6, c7, c8, c9⟩ := T
        go_wp2_with fail
        go_ret
        exact ⟨ret_bool (by first | rfl | exact beq_false_of_ne (by assumption) | exact beq_false_of_ne (by omega) | exact decide_eq_false (by omega) | (show _ = true; simp; done) | (show _ = true; simp; omega) | (show _ = false; simp; done) | (show _ = false; simp; omega)), ob⟩

set_option maxRecDepth 100000 in
set_option maxHeartbeats 2000000 in
theorem st7_lo (hlo : nk < 2) (H : Prm w np pm pa pc ⟨⟨7, frm, tto, line, op, num, flt, text, nn, nm, nk, kd⟩, na, nc, ka, kc⟩) :
    Calls Try.prog 22 #[.agg #[.slice pa np pc], .agg #[.int .i64 7, .int .i64 frm, .int .i64 tto, .int .i64 line, .int .i64 op, .int .i64 num, .float .f64 flt, .string text, .slice na nn nc, .slice ka nk kc]] w fun e w' => e = .returned (.bool false) ∧ Onw w w' := by
  obtain ⟨hn, hk, hnn, htx, hr, hz, ht, hm⟩ := H
  dsimp only at hk hnn htx hr hz
  have T := Two.new w pa np pc 7 frm tto line op num flt text na nn nc ka nk kc
  have ob := Two.start w pa np pc 7 frm tto line op num flt text na nn nc ka nk kc
  go_enter Try.func22, Try.ntmps22
  go_wp2_with fail
  refine (l6bare_any ⟨⟨7, frm, tto, line, op, num, flt, text, nn, nm, nk, kd⟩, na, nc, ka, kc⟩ _ false false false false (by decide)).mono ?_
  rintro e w1 ⟨rfl, O1⟩
  replace T := T.onw O1
  replace ob := ob.trans O1
  clear O1
  obtain ⟨q0, hq0⟩ : ∃ q, bareP (⟨7, frm, tto, line, op, num, flt, text, nn, nm, nk, kd⟩ : PD) false false false false = q := ⟨_, rfl⟩
  rw [hq0]
  have x0 : Hid _ := hq0
  clear hq0
  cases q0
  ·
    obtain ⟨t0, c0, c1, c2, c3, c4, c5, c6, c7, c8, c9⟩ := T
    go_wp2_with fail
    go_ret
    exact ⟨ret_bool (by first | rfl | exact beq_false_of_ne (by assumption) | exact beq_false_of_ne (by omega) | exact decide_eq_false (by omega) | (show _ = true; simp; done) | (show _ = true; simp; omega) | (show _ = false; simp; done) | (show _ = false; simp; omega)), ob⟩
  ·
    have ⟨t0, c0, c1, c2, c3, c4, c5, c6, c7, c8, c9⟩ := T
    go_wp2_with fail
    clear t0 c0 c1 c2 c3 c4 c5 c6 c7 c8 c9
    go_ret
    exact ⟨ret_bool (by first | rfl | exact beq_false_of_ne (by assumption) | exact beq_false_of_ne (by omega) | exact decide_eq_false (by omega) | (show _ = true; simp; done) | (show _ = true; simp; omega) | (show _ = false; simp; done) | (show _ = false; simp; omega)), ob⟩

set_option maxRecDepth 100000 in
set_option maxHeartbeats 2000000 in
theorem st7_hi (hhi : 3 < nk) (H : Prm w np pm pa pc ⟨⟨7, frm, tto, line, op, num, flt, text, nn, nm, nk, kd⟩, na, nc, ka, kc⟩) :
    Calls Try.prog 22 #[.agg #[.slice pa np pc], .agg #[.int .i64 7, .int .i64 frm, .int .i64 tto, .int .i64 line, .int .i64 op, .int .i64 num, .float .f64 flt, .string text, .slice na nn nc, .slice ka nk kc]] w fun e w' => e = .returned (.bool false) ∧ Onw w w' := by
  obtain ⟨hn, hk, hnn, htx, hr, hz, ht, hm⟩ := H
  dsimp only at hk hnn htx hr hz
  have T := Two.new w pa np pc 7 frm tto line op num flt text na nn nc ka nk kc
  have ob := Two.start w pa np pc 7 frm tto line op num flt text na nn nc ka nk kc
  go_enter Try.func22, Try.ntmps22
  go_wp2_with fail
  refine (l6bare_any ⟨⟨7, frm, tto, line, op, num, flt, text, nn, nm, nk, kd⟩, na, nc, ka, kc⟩ _ false false false false (by decide)).mono ?_
  rintro e w1 ⟨rfl, O1⟩
  replace T := T.onw O1
  replace ob := ob.trans O1
  clear O1
  obtain ⟨q0, hq0⟩ : ∃ q, bareP (⟨7, frm, tto, line, op, num, flt, text, nn, nm, nk, kd⟩ : PD) false false false false = q := ⟨_, rfl⟩
  rw [hq0]
  have x0 : Hid _ := hq0
  clear hq0
  cases q0
  ·
    obtain ⟨t0, c0, c1, c2, c3, c4, c5, c6, c7, c8, c9⟩ := T
    go_wp2_with fail
    go_ret
    exact ⟨ret_bool (by first | rfl | exact beq_false_of_ne (by assumption) | exact beq_false_of_ne (by omega) | exact decide_eq_false (by omega) | (show _ = true; simp; done) | (show _ = true; simp; omega) | (show _ = false; simp; done) | (show _ = false; simp; omega)), ob⟩
  ·
    have ⟨t0, c0, c1, c2, c3, c4, c5, c6, c7, c8, c9⟩ := T
    go_wp2_with fail
    clear t0 c0 c1 c2 c3 c4 c5 c6 c7 c8 c9
    go_ret
    exact ⟨ret_bool (by first | rfl | exact beq_false_of_ne (by assumption) | exact beq_false_of_ne (by omega) | exact decide_eq_false (by omega) | (show _ = true; simp; done) | (show _ = true; simp; omega) | (show _ = false; simp; done) | (show _ = false; simp; omega)), ob⟩
end Go.Proofs.Ytnokgdgikdgaeaa
