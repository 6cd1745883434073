import Derived.Test.YtnokgdgikdgaeaaP07
namespace Go.Proofs.Ytnokgdgikdgaeaa
open Go.RowKit
attribute [local go_sem] run_store_float
variable (w : World) (np : Nat) (pm : Nat → PM) (pa : Option Addr) (pc : Nat) (frm tto line op num : Int) (flt : Nat) (text : ByteArray) (nn : Nat) (nm : Nat → ByteArray) (nk : Nat) (kd : Nat → Int) (na : Option Addr) (nc : Nat) (ka : Option Addr) (kc : Nat)

set_option maxRecDepth 100000 in
set_option maxHeartbeats 2000000 in
theorem ex36_no (hne : nk ≠ 1) (H : Prm w np pm pa pc ⟨⟨36, frm, tto, line, op, num, flt, text, nn, nm, nk, kd⟩, na, nc, ka, kc⟩) :
    Calls Try.prog 23 #[.agg #[.slice pa np pc], .agg #[.int .i64 36, .int .i64 frm, .int .i64 tto, .int .i64 line, .int .i64 op, .int .i64 num, .float .f64 flt, .string text, .slice na nn nc, .slice ka nk kc]] w fun e w' => e = .returned (.bool false) ∧ Onw w w' := by
  obtain ⟨hn, hk, hnn, htx, hr, hz, ht, hm⟩ := H
  dsimp only at hk hnn htx hr hz
  have T := Two.new w pa np pc 36 frm tto line op num flt text na nn nc ka nk kc
  have ob := Two.start w pa np pc 36 frm tto line op num flt text na nn nc ka nk kc
  go_enter Try.func23, Try.ntmps23
  go_wp2_with fail
  go_ret
  exact ⟨ret_bool (by first | rfl | exact beq_false_of_ne (by assumption) | exact beq_false_of_ne (by omega) | exact decide_eq_false (by omega) | (show _ = true; simp; done) | (show _ = true; simp; omega) | (show _ = false; simp; done) | (show _ = false; simp; omega)), ob⟩

set_option maxRecDepth 100000 in
set_option maxHeartbeats 2000000 in
theorem ex36_b (H : Prm w np pm pa pc ⟨⟨36, frm, tto, line, 1, num, flt, text, nn, nm, 1, kd⟩, na, nc, ka, kc⟩) :
    Calls Try.prog 23 #[.agg #[.slice pa np pc], .agg #[.int .i64 36, .int .i64 frm, .int .i64 tto, .int .i64 line, .int .i64 1, .int .i64 num, .float .f64 flt, .string text, .slice na nn nc, .slice ka 1 kc]] w fun e w' => e = .returned (.bool (((kidP (pdOf pm) (⟨36, frm, tto, line, 1, num, flt, text, nn, nm, 1, kd⟩ : PD) 0 == 1) && ((bareP (⟨36, frm, tto, line, 1, num, flt, text, nn, nm, 1, kd⟩ : PD) true false false true) && namedP (⟨36, frm, tto, line, 1, num, flt, text, nn, nm, 1, kd⟩ : PD) 0 200)))) ∧ Onw w w' := by
  obtain ⟨hn, hk, hnn, htx, hr, hz, ht, hm⟩ := H
  dsimp only at hk hnn htx hr hz
  have T := Two.new w pa np pc 36 frm tto line 1 num flt text na nn nc ka 1 kc
  have ob := Two.start w pa np pc 36 frm tto line 1 num flt text na nn nc ka 1 kc
  go_enter Try.func23, Try.ntmps23
  go_wp2_with fail
  refine (l6kid_any ⟨np, pm, pa, pc⟩ ⟨⟨36, frm, tto, line, 1, num, flt, text, nn, nm, 1, kd⟩, na, nc, ka, kc⟩ 0 _ hn (by dsimp only; omega) hk (hr 0 (by omega)).1 (hr 0 (by omega)).2 (TM.At.onw ob ht) (hm.2.onw ob)).mono ?_
  rintro e w1 ⟨rfl, O1⟩
  replace T := T.onw O1
  replace ob := ob.trans O1
  clear O1
  obtain ⟨q0, hq0⟩ : ∃ q, kidP (pdOf pm) (⟨36, frm, tto, line, 1, num, flt, text, nn, nm, 1, kd⟩ : PD) 0 = q := ⟨_, rfl⟩
  rw [hq0]
  by_cases y0 : q0 = 1
  · have x0 : Hid ((kidP (pdOf pm) (⟨36, frm, tto, line, 1, num, flt, text, nn, nm, 1, kd⟩ : PD) 0 == 1) = true) := by show _ = _; rw [hq0, y0]; rfl
    subst y0; clear hq0
    have ⟨t0, c0, c1, c2, c3, c4, c5, c6, c7, c8, c9⟩ := T
    go_wp2_with fail
    clear t0 c0 c1 c2 c3 c4 c5 c6 c7 c8 c9
    refine (l6bare_any ⟨⟨36, frm, tto, line, 1, num, flt, text, nn, nm, 1, kd⟩, na, nc, ka, kc⟩ _ true false false true (by decide)).mono ?_
    rintro e w1 ⟨rfl, O1⟩
    replace T := T.onw O1
    replace ob := ob.trans O1
    clear O1
    obtain ⟨q1, hq1⟩ : ∃ q, bareP (⟨36, frm, tto, line, 1, num, flt, text, nn, nm, 1, kd⟩ : PD) true false false true = q := ⟨_, rfl⟩
    rw [hq1]
    have x1 : Hid _ := hq1
    clear hq1
    cases q1
    ·
      obtain ⟨t0, c0, c1, c2, c3, c4, c5, c6, c7, c8, c9⟩ := T
      go_wp2_with fail
      go_ret
      exact ⟨ret_bool (by rw [x0.out, x1.out] <;> first | rfl | exact beq_false_of_ne (by assumption) | exact beq_false_of_ne (by omega) | exact decide_eq_false (by omega) | (show _ = true; simp; done) | (show _ = true; simp; omega) | (show _ = false; simp; done) | (show _ = false; simp; omega)), ob⟩
    ·
      have ⟨t0, c0, c1, c2, c3, c4, c5, c6, c7, c8, c9⟩ := T
      go_wp2_with fail
      clear t0 c0 c1 c2 c3 c4 c5 c6 c7 c8 c9
      refine (l6named_any ⟨⟨36, frm, tto, line, 1, num, flt, text, nn, nm, 1, kd⟩, na, nc, ka, kc⟩ 0 200 _ hnn hz (hm.1.onw ob)).mono ?_
      rintro e w1 ⟨rfl, O1⟩
      replace T := T.onw O1
      replace ob := ob.trans O1
      clear O1
      obtain ⟨q2, hq2⟩ : ∃ q, namedP (⟨36, frm, tto, line, 1, num, flt, text, nn, nm, 1, kd⟩ : PD) 0 200 = q := ⟨_, rfl⟩
      rw [hq2]
      have x2 : Hid _ := hq2
      clear hq2
      cases q2
      ·
        obtain ⟨t0, c0, c1, c2, c3, c4, c5, c6, c7, c8, c9⟩ := T
        go_wp2_with fail
        go_ret
        exact ⟨ret_bool (by rw [x0.out, x1.out, x2.out] <;> first | rfl | exact beq_false_of_ne (by assumption) | exact beq_false_of_ne (by omega) | exact decide_eq_false (by omega) | (show _ = true; simp; done) | (show _ = true; simp; omega) | (show _ = false; simp; done) | (show _ = false; simp; omega)), ob⟩
      ·
        have ⟨t0, c0, c1, c2, c3, c4, c5, c6, c7, c8, c9⟩ := T
        go_wp2_with fail
        clear t0 c0 c1 c2 c3 c4 c5 c6 c7 c8 c9
        go_ret
        exact ⟨ret_bool (by rw [x0.out, x1.out, x2.out] <;> first | rfl | exact beq_false_of_ne (by assumption) | exact beq_false_of_ne (by omega) | exact decide_eq_false (by omega) | (show _ = true; simp; done) | (show _ = true; simp; omega) | (show _ = false; simp; done) | (show _ = false; simp; omega)), ob⟩
  · have x0 : Hid ((kidP (pdOf pm) (⟨36, frm, tto, line, 1, num, flt, text, nn, nm, 1, kd⟩ : PD) 0 == 1) = false) := by show _ = _; rw [hq0]; exact beq_false_of_ne y0
    clear hq0
    obtain ⟨t0, c0, c1, c2, c3, c4, c5, c6, c7, c8, c9⟩ := T
    go_wp2_with fail
    go_ret
    exact ⟨ret_bool (by rw [x0.out] <;> first | rfl | exact beq_false_of_ne (by assumption) | exact beq_false_of_ne (by omega) | exact decide_eq_false (by omega) | (show _ = true; simp; done) | (show _ = true; simp; omega) | (show _ = false; simp; done) | (show _ = false; simp; omega)), ob⟩

set_option maxRecDepth 100000 in
set_option maxHeartbeats 2000000 in
theorem ex36_c (ho : op ≠ 0) (ho' : op ≠ 1) (H : Prm w np pm pa pc ⟨⟨36, frm, tto, line, op, num, flt, text, nn, nm, 1, kd⟩, na, nc, ka, kc⟩) :
    Calls Try.prog 23 #[.agg #[.slice pa np pc], .agg #[.int .i64 36, .int .i64 frm, .int .i64 tto, .int .i64 line, .int .i64 op, .int .i64 num, .float .f64 flt, .string text, .slice na nn nc, .slice ka 1 kc]] w fun e w' => e = .returned (.bool false) ∧ Onw w w' := by
  obtain ⟨hn, hk, hnn, htx, hr, hz, ht, hm⟩ := H
  dsimp only at hk hnn htx hr hz
  have T := Two.new w pa np pc 36 frm tto line op num flt text na nn nc ka 1 kc
  have ob := Two.start w pa np pc 36 frm tto line op num flt text na nn nc ka 1 kc
  go_enter Try.func23, Try.ntmps23
  go_wp2_with fail
  refine (l6kid_any ⟨np, pm, pa, pc⟩ ⟨⟨36, frm, tto, line, op, num, flt, text, nn, nm, 1, kd⟩, na, nc, ka, kc⟩ 0 _ hn (by dsimp only; omega) hk (hr 0 (by omega)).1 (hr 0 (by omega)).2 (TM.At.onw ob ht) (hm.2.onw ob)).mono ?_
  rintro e w1 ⟨rfl, O1⟩
  replace T := T.onw O1
  replace ob := ob.trans O1
  clear O1
  obtain ⟨q0, hq0⟩ : ∃ q, kidP (pdOf pm) (⟨36, frm, tto, line, op, num, flt, text, nn, nm, 1, kd⟩ : PD) 0 = q := ⟨_, rfl⟩
  rw [hq0]
  by_cases y0 : q0 = 1
  · have x0 : Hid ((kidP (pdOf pm) (⟨36, frm, tto, line, op, num, flt, text, nn, nm, 1, kd⟩ : PD) 0 == 1) = true) := by show _ = _; rw [hq0, y0]; rfl
    subst y0; clear hq0
    have ⟨t0, c0, c1, c2, c3, c4, c5, c6, c7, c8, c9⟩ := T
    go_wp2_with fail
    clear t0 c0 c1 c2 c3 c4 c5 c6 c7 c8 c9
    refine (l6bare_any ⟨⟨36, frm, tto, line, op, num, flt, text, nn, nm, 1, kd⟩, na, nc, ka, kc⟩ _ true false false true (by decide)).mono ?_
    rintro e w1 ⟨rfl, O1⟩
    replace T := T.onw O1
    replace ob := ob.trans O1
    clear O1
    obtain ⟨q1, hq1⟩ : ∃ q, bareP (⟨36, frm, tto, line, op, num, flt, text, nn, nm, 1, kd⟩ : PD) true false false true = q := ⟨_, rfl⟩
    rw [hq1]
    have x1 : Hid _ := hq1
    clear hq1
    cases q1
    ·
      obtain ⟨t0, c0, c1, c2, c3, c4, c5, c6, c7, c8, c9⟩ := T
      go_wp2_with fail
      go_ret
      exact ⟨ret_bool (by first | rfl | exact beq_false_of_ne (by assumption) | exact beq_false_of_ne (by omega) | exact decide_eq_false (by omega) | (show _ = true; simp; done) | (show _ = true; simp; omega) | (show _ = false; simp; done) | (show _ = false; simp; omega)), ob⟩
    ·
      have ⟨t0, c0, c1, c2, c3, c4, c5, c6, c7, c8, c9⟩ := T
      go_wp2_with fail
      clear t0 c0 c1 c2 c3 c4 c5 c6 c7 c8 c9
      refine (l6named_any ⟨⟨36, frm, tto, line, op, num, flt, text, nn, nm, 1, kd⟩, na, nc, ka, kc⟩ 0 200 _ hnn hz (hm.1.onw ob)).mono ?_
      rintro e w1 ⟨rfl, O1⟩
      replace T := T.onw O1
      replace ob := ob.trans O1
      clear O1
      obtain ⟨q2, hq2⟩ : ∃ q, namedP (⟨36, frm, tto, line, op, num, flt, text, nn, nm, 1, kd⟩ : PD) 0 200 = q := ⟨_, rfl⟩
      rw [hq2]
      have x2 : Hid _ := hq2
      clear hq2
      cases q2
      ·
        obtain ⟨t0, c0, c1, c2, c3, c4, c5, c6, c7, c8, c9⟩ := T
        go_wp2_with fail
        go_ret
        exact ⟨ret_bool (by first | rfl | exact beq_false_of_ne (by assumption) | exact beq_false_of_ne (by omega) | exact decide_eq_false (by omega) | (show _ = true; simp; done) | (show _ = true; simp; omega) | (show _ = false; simp; done) | (show _ = false; simp; omega)), ob⟩
      ·
        have ⟨t0, c0, c1, c2, c3, c4, c5, c6, c7, c8, c9⟩ := T
        go_wp2_with fail
        clear t0 c0 c1 c2 c3 c4 c5 c6 c7 c8 c9
        go_ret
        exact ⟨ret_bool (by first | rfl | exact beq_false_of_ne (by assumption) | exact beq_false_of_ne (by omega) | exact decide_eq_false (by omega) | (show _ = true; simp; done) | (show _ = true; simp; omega) | (show _ = false; simp; done) | (show _ = false; simp; omega)), ob⟩
  · have x0 : Hid ((kidP (pdOf pm) (⟨36, frm, tto, line, op, num, flt, text, nn, nm, 1, kd⟩ : PD) 0 == 1) = false) := by show _ = _; rw [hq0]; exact beq_false_of_ne y0
    clear hq0
    obtain ⟨t0, c0, c1, c2, c3, c4, c5, c6, c7, c8, c9⟩ := T
    go_wp2_with fail
    go_ret
    exact ⟨ret_bool (by first | rfl | exact beq_false_of_ne (by assumption) | exact beq_false_of_ne (by omega) | exact decide_eq_false (by omega) | (show _ = true; simp; done) | (show _ = true; simp; omega) | (show _ = false; simp; done) | (show _ = false; simp; omega)), ob⟩

set_option maxRecDepth 100000 in
set_option maxHeartbeats 2000000 in
theorem ex37_a (hq : kidP (pdOf pm) (⟨37, frm, tto, line, op, num, flt, text, nn, nm, 1, kd⟩ : PD) 0 = 34) (H : Prm w np pm pa pc ⟨⟨37, frm, tto, line, op, num, flt, text, nn, nm, 1, kd⟩, na, nc, ka, kc⟩) :
    Calls Try.prog 23 #[.agg #[.slice pa np pc], .agg #[.int .i64 37, .int .i64 frm, .int .i64 tto, .int .i64 line, .int .i64 op, .int .i64 num, .float .f64 flt, .string text, .slice na nn nc, .slice ka 1 kc]] w fun e w' => e = .returned (.bool (bareP (⟨37, frm, tto, line, op, num, flt, text, nn, nm, 1, kd⟩ : PD) false false false false)) ∧ Onw w w' := by
  obtain ⟨hn, hk, hnn, htx, hr, hz, ht, hm⟩ := H
  dsimp only at hk hnn htx hr hz
  have T := Two.new w pa np pc 37 frm tto line op num flt text na nn nc ka 1 kc
  have ob := Two.start w pa np pc 37 frm tto line op num flt text na nn nc ka 1 kc
  go_enter Try.func23, Try.ntmps23
  go_wp2_with fail
  refine (l6kid_any ⟨np, pm, pa, pc⟩ ⟨⟨37, frm, tto, line, op, num, flt, text, nn, nm, 1, kd⟩, na, nc, ka, kc⟩ 0 _ hn (by dsimp only; omega) hk (hr 0 (by omega)).1 (hr 0 (by omega)).2 (TM.At.onw ob ht) (hm.2.onw ob)).mono ?_
  rintro e w1 ⟨rfl, O1⟩
  replace T := T.onw O1
  replace ob := ob.trans O1
  clear O1
  rw [hq]
  have ⟨t0, c0, c1, c2, c3, c4, c5, c6, c7, c8, c9⟩ := T
  go_wp2_with fail
  clear t0 c0 c1 c2 c3 c4 c5 c6 c7 c8 c9
  refine (l6bare_any ⟨⟨37, frm, tto, line, op, num, flt, text, nn, nm, 1, kd⟩, na, nc, ka, kc⟩ _ false false false false (by decide)).mono ?_
  rintro e w1 ⟨rfl, O1⟩
  replace T := T.onw O1
  replace ob := ob.trans O1
  clear O1
  obtain ⟨q1, hq1⟩ : ∃ q, bareP (⟨37, frm, tto, line, op, num, flt, text, nn, nm, 1, kd⟩ : PD) false false false false = q := ⟨_, rfl⟩
  rw [hq1]
  have x1 : Hid _ := hq1
  clear hq1
  cases q1
  ·
    obtain ⟨t0, c0, c1, c2, c3, c4, c5, c6, c7, c8, c9⟩ := T
    go_wp2_with fail
    go_ret
    exact ⟨ret_bool (by rw [x1.out] <;> first | rfl | exact beq_false_of_ne (by assumption) | exact beq_false_of_ne (by omega) | exact decide_eq_false (by omega) | (show _ = true; simp; done) | (show _ = true; simp; omega) | (show _ = false; simp; done) | (show _ = false; simp; omega)), ob⟩
  ·
    have ⟨t0, c0, c1, c2, c3, c4, c5, c6, c7, c8, c9⟩ := T
    go_wp2_with fail
    clear t0 c0 c1 c2 c3 c4 c5 c6 c7 c8 c9
    go_ret
    exact ⟨ret_bool (by rw [x1.out] <;> first | rfl | exact beq_false_of_ne (by assumption) | exact beq_false_of_ne (by omega) | exact decide_eq_false (by omega) | (show _ = true; simp; done) | (show _ = true; simp; omega) | (show _ = false; simp; done) | (show _ = false; simp; omega)), ob⟩

set_option maxRecDepth 100000 in
set_option maxHeartbeats 2000000 in
theorem ex37_no (hne : nk ≠ 1) (H : Prm w np pm pa pc ⟨⟨37, frm, tto, line, op, num, flt, text, nn, nm, nk, kd⟩, na, nc, ka, kc⟩) :
    Calls Try.prog 23 #[.agg #[.slice pa np pc], .agg #[.int .i64 37, .int .i64 frm, .int .i64 tto, .int .i64 line, .int .i64 op, .int .i64 num, .float .f64 flt, .string text, .slice na nn nc, .slice ka nk kc]] w fun e w' => e = .returned (.bool false) ∧ Onw w w' := by
  obtain ⟨hn, hk, hnn, htx, hr, hz, ht, hm⟩ := H
  dsimp only at hk hnn htx hr hz
  have T := Two.new w pa np pc 37 frm tto line op num flt text na nn nc ka nk kc
  have ob := Two.start w pa np pc 37 frm tto line op num flt text na nn nc ka nk kc
  go_enter Try.func23, Try.ntmps23
  go_wp2_with fail
  go_ret
  exact ⟨ret_bool (by first | rfl | exact beq_false_of_ne (by assumption) | exact beq_false_of_ne (by omega) | exact decide_eq_false (by omega) | (show _ = true; simp; done) | (show _ = true; simp; omega) | (show _ = false; simp; done) | (show _ = false; simp; omega)), ob⟩

set_option maxRecDepth 100000 in
set_option maxHeartbeats 2000000 in
theorem ex37_b (hq : kidP (pdOf pm) (⟨37, frm, tto, line, op, num, flt, text, nn, nm, 1, kd⟩ : PD) 0 = 27) (H : Prm w np pm pa pc ⟨⟨37, frm, tto, line, op, num, flt, text, nn, nm, 1, kd⟩, na, nc, ka, kc⟩) :
    Calls Try.prog 23 #[.agg #[.slice pa np pc], .agg #[.int .i64 37, .int .i64 frm, .int .i64 tto, .int .i64 line, .int .i64 op, .int .i64 num, .float .f64 flt, .string text, .slice na nn nc, .slice ka 1 kc]] w fun e w' => e = .returned (.bool (bareP (⟨37, frm, tto, line, op, num, flt, text, nn, nm, 1, kd⟩ : PD) false false false false)) ∧ Onw w w' := by
  obtain ⟨hn, hk, hnn, htx, hr, hz, ht, hm⟩ := H
  dsimp only at hk hnn htx hr hz
  have T := Two.new w pa np pc 37 frm tto line op num flt text na nn nc ka 1 kc
  have ob := Two.start w pa np pc 37 frm tto line op num flt text na nn nc ka 1 kc
  go_enter Try.func23, Try.ntmps23
  go_wp2_with fail
  refine (l6kid_any ⟨np, pm, pa, pc⟩ ⟨⟨37, frm, tto, line, op, num, flt, text, nn, nm, 1, kd⟩, na, nc, ka, kc⟩ 0 _ hn (by dsimp only; omega) hk (hr 0 (by omega)).1 (hr 0 (by omega)).2 (TM.At.onw ob ht) (hm.2.onw ob)).mono ?_
  rintro e w1 ⟨rfl, O1⟩
  replace T := T.onw O1
  replace ob := ob.trans O1
  clear O1
  rw [hq]
  have ⟨t0, c0, c1, c2, c3, c4, c5, c6, c7, c8, c9⟩ := T
  go_wp2_with fail
  clear t0 c0 c1 c2 c3 c4 c5 c6 c7 c8 c9
  refine (l6kid_any ⟨np, pm, pa, pc⟩ ⟨⟨37, frm, tto, line, op, num, flt, text, nn, nm, 1, kd⟩, na, nc, ka, kc⟩ 0 _ hn (by dsimp only; omega) hk (hr 0 (by omega)).1 (hr 0 (by omega)).2 (TM.At.onw ob ht) (hm.2.onw ob)).mono ?_
  rintro e w1 ⟨rfl, O1⟩
  replace T := T.onw O1
  replace ob := ob.trans O1
  clear O1
  rw [hq]
  have ⟨t0, c0, c1, c2, c3, c4, c5, c6, c7, c8, c9⟩ := T
  go_wp2_with fail
  clear t0 c0 c1 c2 c3 c4 c5 c6 c7 c8 c9
  refine (l6bare_any ⟨⟨37, frm, tto, line, op, num, flt, text, nn, nm, 1, kd⟩, na, nc, ka, kc⟩ _ false false false false (by decide)).mono ?_
  rintro e w1 ⟨rfl, O1⟩
  replace T := T.onw O1
  replace ob := ob.trans O1
  clear O1
  obtain ⟨q2, hq2⟩ : ∃ q, bareP (⟨37, frm, tto, line, op, num, flt, text, nn, nm, 1, kd⟩ : PD) false false false false = q := ⟨_, rfl⟩
  rw [hq2]
  have x2 : Hid _ := hq2
  clear hq2
  cases q2
  ·
    obtain ⟨t0, c0, c1, c2, c3, c4, c5, c6, c7, c8, c9⟩ := T
    go_wp2_with fail
    go_ret
    exact ⟨ret_bool (by rw [x2.out] <;> first | rfl | exact beq_false_of_ne (by assumption) | exact beq_false_of_ne (by omega) | exact decide_eq_false (by omega) | (show _ = true; simp; done) | (show _ = true; simp; omega) | (show _ = false; simp; done) | (show _ = false; simp; omega)), ob⟩
  ·
    have ⟨t0, c0, c1, c2, c3, c4, c5, c6, c7, c8, c9⟩ := T
    go_wp2_with fail
    clear t0 c0 c1 c2 c3 c4 c5 c6 c7 c8 c9
    go_ret
    exact ⟨ret_bool (by rw [x2.out] <;> first | rfl | exact beq_false_of_ne (by assumption) | exact beq_false_of_ne (by omega) | exact decide_eq_false (by omega) | (show _ = true; simp; done) | (show _ = true; simp; omega) | (show _ = false; simp; done) | (show _ = false; simp; omega)), ob⟩
end Go.Proofs.Ytnokgdgikdgaeaa

namespace Go.Proofs.Ytnokgdgikdgaeaa
open Go.RowKit
attribute [local go_sem] run_store_float
variable (w : World) (np : Nat) (pm : Nat → PM) (pa : Option Addr) (pc : Nat) (frm tto line op num : Int) (flt : Nat) (text : ByteArray) (nn : Nat) (nm : Nat → ByteArray) (nk : Nat) (kd : Nat → Int) (na : Option Addr) (nc : Nat) (ka : Option Addr) (kc : Nat)

set_option maxRecDepth 100000 in
set_option maxHeartbeats 2000000 in
theorem ex37_c (q : Int) (hq : kidP (pdOf pm) (⟨37, frm, tto, line, op, num, flt, text, nn, nm, 1, kd⟩ : PD) 0 = q) (q1 : q ≠ 34) (q7 : q ≠ 27) (H : Prm w np pm pa pc ⟨⟨37, frm, tto, line, op, num, flt, text, nn, nm, 1, kd⟩, na, nc, ka, kc⟩) :
    Calls Try.prog 23 #[.agg #[.slice pa np pc], .agg #[.int .i64 37, .int .i64 frm, .int .i64 tto, .int .i64 line, .int .i64 op, .int .i64 num, .float .f64 flt, .string text, .slice na nn nc, .slice ka 1 kc]] w fun e w' => e = .returned (.bool false) ∧ Onw w w' := by
  obtain ⟨hn, hk, hnn, htx, hr, hz, ht, hm⟩ := H
  dsimp only at hk hnn htx hr hz
  have T := Two.new w pa np pc 37 frm tto line op num flt text na nn nc ka 1 kc
  have ob := Two.start w pa np pc 37 frm tto line op num flt text na nn nc ka 1 kc
  go_enter Try.func23, Try.ntmps23
  go_wp2_with fail
  refine (l6kid_any ⟨np, pm, pa, pc⟩ ⟨⟨37, frm, tto, line, op, num, flt, text, nn, nm, 1, kd⟩, na, nc, ka, kc⟩ 0 _ hn (by dsimp only; omega) hk (hr 0 (by omega)).1 (hr 0 (by omega)).2 (TM.At.onw ob ht) (hm.2.onw ob)).mono ?_
  rintro e w1 ⟨rfl, O1⟩
  replace T := T.onw O1
  replace ob := ob.trans O1
  clear O1
  rw [hq]
  have ⟨t0, c0, c1, c2, c3, c4, c5, c6, c7, c8, c9⟩ := T
  go_wp2_with fail
  clear t0 c0 c1 c2 c3 c4 c5 c6 c7 c8 c9
  refine (l6kid_any ⟨np, pm, pa, pc⟩ ⟨⟨37, frm, tto, line, op, num, flt, text, nn, nm, 1, kd⟩, na, nc, ka, kc⟩ 0 _ hn (by dsimp only; omega) hk (hr 0 (by omega)).1 (hr 0 (by omega)).2 (TM.At.onw ob ht) (hm.2.onw ob)).mono ?_
  rintro e w1 ⟨rfl, O1⟩
  replace T := T.onw O1
  replace ob := ob.trans O1
  clear O1
  rw [hq]
  have ⟨t0, c0, c1, c2, c3, c4, c5, c6, c7, c8, c9⟩ := T
  go_wp2_with fail
  clear t0 c0 c1 c2 c3 c4 c5 c6 c7 c8 c9
  go_ret
  exact ⟨ret_bool (by first | rfl | exact beq_false_of_ne (by assumption) | exact beq_false_of_ne (by omega) | exact decide_eq_false (by omega) | (show _ = true; simp; done) | (show _ = true; simp; omega) | (show _ = false; simp; done) | (show _ = false; simp; omega)), ob⟩

set_option maxRecDepth 100000 in
set_option maxHeartbeats 2000000 in
theorem ex40_1 (H : Prm w np pm pa pc ⟨⟨40, frm, tto, line, op, num, flt, text, nn, nm, 1, kd⟩, na, nc, ka, kc⟩) :
    Calls Try.prog 23 #[.agg #[.slice pa np pc], .agg #[.int .i64 40, .int .i64 frm, .int .i64 tto, .int .i64 line, .int .i64 op, .int .i64 num, .float .f64 flt, .string text, .slice na nn nc, .slice ka 1 kc]] w fun e w' => e = .returned (.bool (((exprsP (pdOf pm) (⟨40, frm, tto, line, op, num, flt, text, nn, nm, 1, kd⟩ : PD) 0 1) && bareP (⟨40, frm, tto, line, op, num, flt, text, nn, nm, 1, kd⟩ : PD) false false false false))) ∧ Onw w w' := by
  obtain ⟨hn, hk, hnn, htx, hr, hz, ht, hm⟩ := H
  dsimp only at hk hnn htx hr hz
  have T := Two.new w pa np pc 40 frm tto line op num flt text na nn nc ka 1 kc
  have ob := Two.start w pa np pc 40 frm tto line op num flt text na nn nc ka 1 kc
  go_enter Try.func23, Try.ntmps23
  go_wp2_with fail
  refine (l6exprs_any ⟨np, pm, pa, pc⟩ ⟨⟨40, frm, tto, line, op, num, flt, text, nn, nm, 1, kd⟩, na, nc, ka, kc⟩ 0 1 _ hn (by omega) (by dsimp only; omega) hk hr (TM.At.onw ob ht) (hm.2.onw ob)).mono ?_
  rintro e w1 ⟨rfl, O1⟩
  replace T := T.onw O1
  replace ob := ob.trans O1
  clear O1
  obtain ⟨q0, hq0⟩ : ∃ q, exprsP (pdOf pm) (⟨40, frm, tto, line, op, num, flt, text, nn, nm, 1, kd⟩ : PD) 0 1 = q := ⟨_, rfl⟩
  rw [hq0]
  have x0 : Hid _ := hq0
  clear hq0
  cases q0
  ·
    obtain ⟨t0, c0, c1, c2, c3, c4, c5, c6, c7, c8, c9⟩ := T
    go_wp2_with fail
    go_ret
    exact ⟨ret_bool (by rw [x0.out] <;> first | rfl | exact beq_false_of_ne (by assumption) | exact beq_false_of_ne (by omega) | exact decide_eq_false (by omega) | (show _ = true; simp; done) | (show _ = true; simp; omega) | (show _ = false; simp; done) | (show _ = false; simp; omega)), ob⟩
  ·
    have ⟨t0, c0, c1, c2, c3, c4, c5, c6, c7, c8, c9⟩ := T
    go_wp2_with fail
    clear t0 c0 c1 c2 c3 c4 c5 c6 c7 c8 c9
    refine (l6bare_any ⟨⟨40, frm, tto, line, op, num, flt, text, nn, nm, 1, kd⟩, na, nc, ka, kc⟩ _ false false false false (by decide)).mono ?_
    rintro e w1 ⟨rfl, O1⟩
    replace T := T.onw O1
    replace ob := ob.trans O1
    clear O1
    obtain ⟨q1, hq1⟩ : ∃ q, bareP (⟨40, frm, tto, line, op, num, flt, text, nn, nm, 1, kd⟩ : PD) false false false false = q := ⟨_, rfl⟩
    rw [hq1]
    have x1 : Hid _ := hq1
    clear hq1
    cases q1
    ·
      obtain ⟨t0, c0, c1, c2, c3, c4, c5, c6, c7, c8, c9⟩ := T
      go_wp2_with fail
      go_ret
      exact ⟨ret_bool (by rw [x0.out, x1.out] <;> first | rfl | exact beq_false_of_ne (by assumption) | exact beq_false_of_ne (by omega) | exact decide_eq_false (by omega) | (show _ = true; simp; done) | (show _ = true; simp; omega) | (show _ = false; simp; done) | (show _ = false; simp; omega)), ob⟩
    ·
      have ⟨t0, c0, c1, c2, c3, c4, c5, c6, c7, c8, c9⟩ := T
      go_wp2_with fail
      clear t0 c0 c1 c2 c3 c4 c5 c6 c7 c8 c9
      go_ret
      exact ⟨ret_bool (by rw [x0.out, x1.out] <;> first | rfl | exact beq_false_of_ne (by assumption) | exact beq_false_of_ne (by omega) | exact decide_eq_false (by omega) | (show _ = true; simp; done) | (show _ = true; simp; omega) | (show _ = false; simp; done) | (show _ = false; simp; omega)), ob⟩

set_option maxRecDepth 100000 in
set_option maxHeartbeats 2000000 in
theorem ex40_no (hne : nk ≠ 1) (H : Prm w np pm pa pc ⟨⟨40, frm, tto, line, op, num, flt, text, nn, nm, nk, kd⟩, na, nc, ka, kc⟩) :
    Calls Try.prog 23 #[.agg #[.slice pa np pc], .agg #[.int .i64 40, .int .i64 frm, .int .i64 tto, .int .i64 line, .int .i64 op, .int .i64 num, .float .f64 flt, .string text, .slice na nn nc, .slice ka nk kc]] w fun e w' => e = .returned (.bool false) ∧ Onw w w' := by
  obtain ⟨hn, hk, hnn, htx, hr, hz, ht, hm⟩ := H
  dsimp only at hk hnn htx hr hz
  have T := Two.new w pa np pc 40 frm tto line op num flt text na nn nc ka nk kc
  have ob := Two.start w pa np pc 40 frm tto line op num flt text na nn nc ka nk kc
  go_enter Try.func23, Try.ntmps23
  go_wp2_with fail
  go_ret
  exact ⟨ret_bool (by first | rfl | exact beq_false_of_ne (by assumption) | exact beq_false_of_ne (by omega) | exact decide_eq_false (by omega) | (show _ = true; simp; done) | (show _ = true; simp; omega) | (show _ = false; simp; done) | (show _ = false; simp; omega)), ob⟩

set_option maxRecDepth 100000 in
set_option maxHeartbeats 2000000 in
theorem ex42_1 (H : Prm w np pm pa pc ⟨⟨42, frm, tto, line, op, num, flt, text, nn, nm, 1, kd⟩, na, nc, ka, kc⟩) :
    Calls Try.prog 23 #[.agg #[.slice pa np pc], .agg #[.int .i64 42, .int .i64 frm, .int .i64 tto, .int .i64 line, .int .i64 op, .int .i64 num, .float .f64 flt, .string text, .slice na nn nc, .slice ka 1 kc]] w fun e w' => e = .returned (.bool (((exprsP (pdOf pm) (⟨42, frm, tto, line, op, num, flt, text, nn, nm, 1, kd⟩ : PD) 0 1) && ((bareP (⟨42, frm, tto, line, op, num, flt, text, nn, nm, 1, kd⟩ : PD) false false true false) && nameB text)))) ∧ Onw w w' := by
  obtain ⟨hn, hk, hnn, htx, hr, hz, ht, hm⟩ := H
  dsimp only at hk hnn htx hr hz
  have T := Two.new w pa np pc 42 frm tto line op num flt text na nn nc ka 1 kc
  have ob := Two.start w pa np pc 42 frm tto line op num flt text na nn nc ka 1 kc
  go_enter Try.func23, Try.ntmps23
  go_wp2_with fail
  refine (l6exprs_any ⟨np, pm, pa, pc⟩ ⟨⟨42, frm, tto, line, op, num, flt, text, nn, nm, 1, kd⟩, na, nc, ka, kc⟩ 0 1 _ hn (by omega) (by dsimp only; omega) hk hr (TM.At.onw ob ht) (hm.2.onw ob)).mono ?_
  rintro e w1 ⟨rfl, O1⟩
  replace T := T.onw O1
  replace ob := ob.trans O1
  clear O1
  obtain ⟨q0, hq0⟩ : ∃ q, exprsP (pdOf pm) (⟨42, frm, tto, line, op, num, flt, text, nn, nm, 1, kd⟩ : PD) 0 1 = q := ⟨_, rfl⟩
  rw [hq0]
  have x0 : Hid _ := hq0
  clear hq0
  cases q0
  ·
    obtain ⟨t0, c0, c1, c2, c3, c4, c5, c6, c7, c8, c9⟩ := T
    go_wp2_with fail
    go_ret
    exact ⟨ret_bool (by rw [x0.out] <;> first | rfl | exact beq_false_of_ne (by assumption) | exact beq_false_of_ne (by omega) | exact decide_eq_false (by omega) | (show _ = true; simp; done) | (show _ = true; simp; omega) | (show _ = false; simp; done) | (show _ = false; simp; omega)), ob⟩
  ·
    have ⟨t0, c0, c1, c2, c3, c4, c5, c6, c7, c8, c9⟩ := T
    go_wp2_with fail
    clear t0 c0 c1 c2 c3 c4 c5 c6 c7 c8 c9
    refine (l6bare_any ⟨⟨42, frm, tto, line, op, num, flt, text, nn, nm, 1, kd⟩, na, nc, ka, kc⟩ _ false false true false (by decide)).mono ?_
    rintro e w1 ⟨rfl, O1⟩
    replace T := T.onw O1
    replace ob := ob.trans O1
    clear O1
    obtain ⟨q1, hq1⟩ : ∃ q, bareP (⟨42, frm, tto, line, op, num, flt, text, nn, nm, 1, kd⟩ : PD) false false true false = q := ⟨_, rfl⟩
    rw [hq1]
    have x1 : Hid _ := hq1
    clear hq1
    cases q1
    ·
      obtain ⟨t0, c0, c1, c2, c3, c4, c5, c6, c7, c8, c9⟩ := T
      go_wp2_with fail
      go_ret
      exact ⟨ret_bool (by rw [x0.out, x1.out] <;> first | rfl | exact beq_false_of_ne (by assumption) | exact beq_false_of_ne (by omega) | exact decide_eq_false (by omega) | (show _ = true; simp; done) | (show _ = true; simp; omega) | (show _ = false; simp; done) | (show _ = false; simp; omega)), ob⟩
    ·
      have ⟨t0, c0, c1, c2, c3, c4, c5, c6, c7, c8, c9⟩ := T
      go_wp2_with fail
      clear t0 c0 c1 c2 c3 c4 c5 c6 c7 c8 c9
      refine (l6nameok_any text _ htx).mono ?_
      rintro e w1 ⟨rfl, O1⟩
      replace T := T.onw O1
      replace ob := ob.trans O1
      clear O1
      obtain ⟨q2, hq2⟩ : ∃ q, nameB text = q := ⟨_, rfl⟩
      rw [hq2]
      have x2 : Hid _ := hq2
      clear hq2
      cases q2
      ·
        obtain ⟨t0, c0, c1, c2, c3, c4, c5, c6, c7, c8, c9⟩ := T
        go_wp2_with fail
        go_ret
        exact ⟨ret_bool (by rw [x0.out, x1.out, x2.out] <;> first | rfl | exact beq_false_of_ne (by assumption) | exact beq_false_of_ne (by omega) | exact decide_eq_false (by omega) | (show _ = true; simp; done) | (show _ = true; simp; omega) | (show _ = false; simp; done) | (show _ = false; simp; omega)), ob⟩
      ·
        have ⟨t0, c0, c1, c2, c3, c4, c5, c6, c7, c8, c9⟩ := T
        go_wp2_with fail
        clear t0 c0 c1 c2 c3 c4 c5 c6 c7 c8 c9
        go_ret
        exact ⟨ret_bool (by rw [x0.out, x1.out, x2.out] <;> first | rfl | exact beq_false_of_ne (by assumption) | exact beq_false_of_ne (by omega) | exact decide_eq_false (by omega) | (show _ = true; simp; done) | (show _ = true; simp; omega) | (show _ = false; simp; done) | (show _ = false; simp; omega)), ob⟩

set_option maxRecDepth 100000 in
set_option maxHeartbeats 2000000 in
theorem ex42_no (hne : nk ≠ 1) (H : Prm w np pm pa pc ⟨⟨42, frm, tto, line, op, num, flt, text, nn, nm, nk, kd⟩, na, nc, ka, kc⟩) :
    Calls Try.prog 23 #[.agg #[.slice pa np pc], .agg #[.int .i64 42, .int .i64 frm, .int .i64 tto, .int .i64 line, .int .i64 op, .int .i64 num, .float .f64 flt, .string text, .slice na nn nc, .slice ka nk kc]] w fun e w' => e = .returned (.bool false) ∧ Onw w w' := by
  obtain ⟨hn, hk, hnn, htx, hr, hz, ht, hm⟩ := H
  dsimp only at hk hnn htx hr hz
  have T := Two.new w pa np pc 42 frm tto line op num flt text na nn nc ka nk kc
  have ob := Two.start w pa np pc 42 frm tto line op num flt text na nn nc ka nk kc
  go_enter Try.func23, Try.ntmps23
  go_wp2_with fail
  go_ret
  exact ⟨ret_bool (by first | rfl | exact beq_false_of_ne (by assumption) | exact beq_false_of_ne (by omega) | exact decide_eq_false (by omega) | (show _ = true; simp; done) | (show _ = true; simp; omega) | (show _ = false; simp; done) | (show _ = false; simp; omega)), ob⟩
end Go.Proofs.Ytnokgdgikdgaeaa

namespace Go.Proofs.Ytnokgdgikdgaeaa
open Go.RowKit
attribute [local go_sem] run_store_float

def entryP (k : Int) : Bool := decide (40 ≤ k) && decide (k ≤ 42)

set_option maxRecDepth 100000 in
set_option maxHeartbeats 2000000 in
theorem ex35_nk (w : World) (np : Nat) (pm : Nat → PM) (pa : Option Addr) (pc : Nat) (frm tto line op num : Int) (flt : Nat) (text : ByteArray) (nn : Nat) (nm : Nat → ByteArray) (nk : Nat) (kd : Nat → Int) (na : Option Addr) (nc : Nat) (ka : Option Addr) (kc : Nat)
    (hn : np ≤ 1048576) (hk : nk ≤ 1048576) (hr : ∀ j, j < nk → 0 ≤ kd j ∧ kd j < np) (ht : TM.At w ⟨np, pm, pa, pc⟩) (hm : PM.At w ⟨⟨35, frm, tto, line, op, num, flt, text, nn, nm, nk, kd⟩, na, nc, ka, kc⟩) :
    Calls Try.prog 23 #[.agg #[.slice pa np pc], .agg #[.int .i64 35, .int .i64 frm, .int .i64 tto, .int .i64 line, .int .i64 op, .int .i64 num, .float .f64 flt, .string text, .slice na nn nc, .slice ka nk kc]] w fun e w' => e = .returned (.bool (allB (fun j => entryP (kidP (pdOf pm) (⟨35, frm, tto, line, op, num, flt, text, nn, nm, nk, kd⟩ : PD) j)) 0 nk && bareP (⟨35, frm, tto, line, op, num, flt, text, nn, nm, nk, kd⟩ : PD) false false false false)) ∧ Onw w w' := by
  have T := Two.new w pa np pc 35 frm tto line op num flt text na nn nc ka nk kc
  have ob := Two.start w pa np pc 35 frm tto line op num flt text na nn nc ka nk kc
  have HR : Hid _ := hr
  clear hr
  go_enter Try.func23, Try.ntmps23
  go_wp2_with fail
  go_loopw [205] (fun x wr => ∃ j : Nat, j ≤ nk ∧ x = .int .i64 j ∧ Onw w wr ∧ Two wr w.heap.size pa np pc 35 frm tto line op num flt text na nn nc ka nk kc ∧ allB (fun j => entryP (kidP (pdOf pm) (⟨35, frm, tto, line, op, num, flt, text, nn, nm, nk, kd⟩ : PD) j)) 0 nk = allB (fun j => entryP (kidP (pdOf pm) (⟨35, frm, tto, line, op, num, flt, text, nn, nm, nk, kd⟩ : PD) j)) j (nk - j)) (fun x _ => nk - (intOf x).toNat)
  case atStart => exact ⟨0, Nat.zero_le _, rfl, ob, T, rfl⟩
  case round =>
    clear ob T
    obtain ⟨j, hj, rfl, ob, T, hq⟩ := hrel
    have HQ : Hid _ := hq
    clear hq
    by_cases hlt : j < nk
    · obtain ⟨h0, h1⟩ := HR.out j hlt
      obtain ⟨q, hqq⟩ : ∃ q, kidP (pdOf pm) (⟨35, frm, tto, line, op, num, flt, text, nn, nm, nk, kd⟩ : PD) j = q := ⟨_, rfl⟩
      have st : Hid (allB (fun j => entryP (kidP (pdOf pm) (⟨35, frm, tto, line, op, num, flt, text, nn, nm, nk, kd⟩ : PD) j)) j (nk - j) = (entryP q && allB (fun j => entryP (kidP (pdOf pm) (⟨35, frm, tto, line, op, num, flt, text, nn, nm, nk, kd⟩ : PD) j)) (j + 1) (nk - (j + 1)))) := by
        show _ = _
        rw [show nk - j = (nk - (j + 1)) + 1 from by omega, ← hqq]; rfl
      obtain ⟨t0, c0, c1, c2, c3, c4, c5, c6, c7, c8, c9⟩ := T
      go_wp2_with fail
      have T : Two _ _ _ _ _ _ _ _ _ _ _ _ _ _ _ _ _ _ _ := ⟨t0, c0, c1, c2, c3, c4, c5, c6, c7, c8, c9⟩
      clear t0 c0 c1 c2 c3 c4 c5 c6 c7 c8 c9
      refine (l6kid_any ⟨np, pm, pa, pc⟩ ⟨⟨35, frm, tto, line, op, num, flt, text, nn, nm, nk, kd⟩, na, nc, ka, kc⟩ j _ hn hlt hk h0 h1 (TM.At.onw ob ht) (hm.2.onw ob)).mono ?_
      rintro e w1 ⟨rfl, O1⟩
      replace T := T.onw O1
      replace ob := ob.trans O1
      clear O1
      rw [hqq]
      cases hx : entryP q
      · by_cases hlo : q < 40
        · go_wp2_with fail
          go_ret
          exact ⟨ret_bool (by rw [HQ.out, st.out, hx]; rfl), ob⟩
        · have hhi : 42 < q := by simp [entryP] at hx; omega
          go_wp2_with fail
          go_ret
          exact ⟨ret_bool (by rw [HQ.out, st.out, hx]; rfl), ob⟩
      · have hlo : 40 ≤ q := by simp [entryP] at hx; omega
        have hhi : q ≤ 42 := by simp [entryP] at hx; omega
        go_wp2_with fail
        go_roundw
        case rel => exact ⟨j + 1, by omega, by go_num, ob, T, by rw [HQ.out, st.out, hx]; rfl⟩
        case measure => simp [intOf]; omega
    · have st : Hid (allB (fun j => entryP (kidP (pdOf pm) (⟨35, frm, tto, line, op, num, flt, text, nn, nm, nk, kd⟩ : PD) j)) j (nk - j) = true) := by
        show _ = _
        rw [show nk - j = 0 from by omega]; rfl
      obtain ⟨t0, c0, c1, c2, c3, c4, c5, c6, c7, c8, c9⟩ := T
      go_wp2_with fail
      refine (l6bare_any ⟨⟨35, frm, tto, line, op, num, flt, text, nn, nm, nk, kd⟩, na, nc, ka, kc⟩ _ false false false false (by decide)).mono ?_
      rintro e w1 ⟨rfl, O1⟩
      replace ob := ob.trans O1
      go_wp2_with fail
      go_ret
      exact ⟨ret_bool (by rw [HQ.out, st.out]; rfl), ob⟩
end Go.Proofs.Ytnokgdgikdgaeaa

namespace Go.Proofs.Ytnokgdgikdgaeaa
open Go.RowKit
attribute [local go_sem] run_store_float

set_option maxRecDepth 100000 in
set_option maxHeartbeats 2000000 in
theorem ex24_0 (w : World) (np : Nat) (pa : Option Addr) (pc : Nat) (frm tto line op num : Int) (flt : Nat) (text : ByteArray) (nn : Nat) (nm : Nat → ByteArray) (kd : Nat → Int) (na : Option Addr) (nc : Nat) (ka : Option Addr) (kc : Nat) :
    Calls Try.prog 23 #[.agg #[.slice pa np pc], .agg #[.int .i64 24, .int .i64 frm, .int .i64 tto, .int .i64 line, .int .i64 op, .int .i64 num, .float .f64 flt, .string text, .slice na nn nc, .slice ka 0 kc]] w fun e w' => e = .returned (.bool (bareP (⟨24, frm, tto, line, op, num, 0, text, nn, nm, 0, kd⟩ : PD) false false false false && fnum flt)) ∧ Onw w w' := by
  have T := Two.new w pa np pc 24 frm tto line op num flt text na nn nc ka 0 kc
  have ob := Two.start w pa np pc 24 frm tto line op num flt text na nn nc ka 0 kc
  go_enter Try.func23, Try.ntmps23
  go_wp2_with fail
  have O3 := Onw.alloc ((w.alloc (Obj.cells #[.slice pa np pc] 31)).alloc (Obj.cells #[.int .i64 24, .int .i64 frm, .int .i64 tto, .int .i64 line, .int .i64 op, .int .i64 num, .float .f64 flt, .string text, .slice na nn nc, .slice ka 0 kc] 41)) (Obj.cells #[.int .i64 24, .int .i64 frm, .int .i64 tto, .int .i64 line, .int .i64 op, .int .i64 num, .float .f64 0, .string text, .slice na nn nc, .slice ka 0 kc] 41)
  replace T := T.onw O3
  replace ob := ob.trans O3
  clear O3
  refine (l6bare_any ⟨⟨24, frm, tto, line, op, num, 0, text, nn, nm, 0, kd⟩, na, nc, ka, kc⟩ _ false false false false (by decide)).mono ?_
  rintro e w1 ⟨rfl, O1⟩
  replace T := T.onw O1
  replace ob := ob.trans O1
  clear O1
  obtain ⟨q0, hq0⟩ : ∃ q, bareP (⟨24, frm, tto, line, op, num, 0, text, nn, nm, 0, kd⟩ : PD) false false false false = q := ⟨_, rfl⟩
  rw [hq0]
  have x0 : Hid _ := hq0
  clear hq0
  obtain ⟨t0, c0, c1, c2, c3, c4, c5, c6, c7, c8, c9⟩ := T
  cases q0
  · go_wp2_with fail
    go_ret
    exact ⟨ret_bool (by rw [x0.out]; rfl), ob⟩
  · go_wp2_with fail
    go_ret
    exact ⟨ret_bool (by rw [x0.out]; rfl), ob⟩

set_option maxRecDepth 100000 in
set_option maxHeartbeats 2000000 in
theorem ex24_no (w : World) (np : Nat) (pa : Option Addr) (pc : Nat) (frm tto line op num : Int) (flt : Nat) (text : ByteArray) (nn : Nat) (nk : Nat) (na : Option Addr) (nc : Nat) (ka : Option Addr) (kc : Nat) (hne : nk ≠ 0) :
    Calls Try.prog 23 #[.agg #[.slice pa np pc], .agg #[.int .i64 24, .int .i64 frm, .int .i64 tto, .int .i64 line, .int .i64 op, .int .i64 num, .float .f64 flt, .string text, .slice na nn nc, .slice ka nk kc]] w fun e w' => e = .returned (.bool false) ∧ Onw w w' := by
  have ob := Two.start w pa np pc 24 frm tto line op num flt text na nn nc ka nk kc
  have O3 := Onw.alloc ((w.alloc (Obj.cells #[.slice pa np pc] 31)).alloc (Obj.cells #[.int .i64 24, .int .i64 frm, .int .i64 tto, .int .i64 line, .int .i64 op, .int .i64 num, .float .f64 flt, .string text, .slice na nn nc, .slice ka nk kc] 41)) (Obj.cells #[.int .i64 24, .int .i64 frm, .int .i64 tto, .int .i64 line, .int .i64 op, .int .i64 num, .float .f64 0, .string text, .slice na nn nc, .slice ka nk kc] 41)
  replace ob := ob.trans O3
  clear O3
  go_enter Try.func23, Try.ntmps23
  go_wp2_with fail
  go_ret
  exact ⟨ret_bool rfl, ob⟩

/-- Kinds of neither sort. -/
def noKind (k : Int) : Bool := !(exprP k) && !(decide (40 ≤ k) && decide (k ≤ 42))

set_option maxRecDepth 100000 in
set_option maxHeartbeats 2000000 in
theorem exNo (w : World) (np : Nat) (pa : Option Addr) (pc : Nat) (kind frm tto line op num : Int) (flt : Nat) (text : ByteArray) (nn : Nat) (nk : Nat) (na : Option Addr) (nc : Nat) (ka : Option Addr) (kc : Nat) (hno : noKind kind = true) :
    Calls Try.prog 23 #[.agg #[.slice pa np pc], .agg #[.int .i64 kind, .int .i64 frm, .int .i64 tto, .int .i64 line, .int .i64 op, .int .i64 num, .float .f64 flt, .string text, .slice na nn nc, .slice ka nk kc]] w fun e w' => e = .returned (.bool false) ∧ Onw w w' := by
  have ob := Two.start w pa np pc kind frm tto line op num flt text na nn nc ka nk kc
  have k20 : kind ≠ 20 := by rintro rfl; revert hno; decide
  have k21 : kind ≠ 21 := by rintro rfl; revert hno; decide
  have k22 : kind ≠ 22 := by rintro rfl; revert hno; decide
  have k23 : kind ≠ 23 := by rintro rfl; revert hno; decide
  have k24 : kind ≠ 24 := by rintro rfl; revert hno; decide
  have k25 : kind ≠ 25 := by rintro rfl; revert hno; decide
  have k26 : kind ≠ 26 := by rintro rfl; revert hno; decide
  have k27 : kind ≠ 27 := by rintro rfl; revert hno; decide
  have k28 : kind ≠ 28 := by rintro rfl; revert hno; decide
  have k29 : kind ≠ 29 := by rintro rfl; revert hno; decide
  have k30 : kind ≠ 30 := by rintro rfl; revert hno; decide
  have k31 : kind ≠ 31 := by rintro rfl; revert hno; decide
  have k32 : kind ≠ 32 := by rintro rfl; revert hno; decide
  have k33 : kind ≠ 33 := by rintro rfl; revert hno; decide
  have k34 : kind ≠ 34 := by rintro rfl; revert hno; decide
  have k35 : kind ≠ 35 := by rintro rfl; revert hno; decide
  have k36 : kind ≠ 36 := by rintro rfl; revert hno; decide
  have k37 : kind ≠ 37 := by rintro rfl; revert hno; decide
  have k40 : kind ≠ 40 := by rintro rfl; revert hno; decide
  have k41 : kind ≠ 41 := by rintro rfl; revert hno; decide
  have k42 : kind ≠ 42 := by rintro rfl; revert hno; decide
  clear hno
  go_enter Try.func23, Try.ntmps23
  go_wp2_with fail
  go_ret
  exact ⟨ret_bool rfl, ob⟩
end Go.Proofs.Ytnokgdgikdgaeaa
