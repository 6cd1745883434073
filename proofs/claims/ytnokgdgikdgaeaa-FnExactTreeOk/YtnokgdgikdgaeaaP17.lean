import Derived.Test.YtnokgdgikdgaeaaP11
namespace Go.Proofs.Ytnokgdgikdgaeaa
open Go.RowKit
attribute [local go_sem] run_store_float

set_option maxRecDepth 100000 in
set_option maxHeartbeats 2000000 in
theorem ex20_0 (w : World) (np : Nat) (pm : Nat → PM) (pa : Option Addr) (pc : Nat) (frm tto line op num : Int) (flt : Nat) (text : ByteArray) (nn : Nat) (nm : Nat → ByteArray) (kd : Nat → Int) (na : Option Addr) (nc : Nat) (ka : Option Addr) (kc : Nat)
    (hn : np ≤ 1048576) (hk : 0 ≤ 1048576) (hnn : nn ≤ 1048576) (htx : text.size ≤ 1048576) (hr : ∀ j, j < 0 → 0 ≤ kd j ∧ kd j < np) (hz : ∀ i, i < nn → (nm i).size ≤ 1048576) (ht : TM.At w ⟨np, pm, pa, pc⟩) (hm : PM.At w ⟨⟨20, frm, tto, line, op, num, flt, text, nn, nm, 0, kd⟩, na, nc, ka, kc⟩) :
    Calls Try.prog 23 #[.agg #[.slice pa np pc], .agg #[.int .i64 20, .int .i64 frm, .int .i64 tto, .int .i64 line, .int .i64 op, .int .i64 num, .float .f64 flt, .string text, .slice na nn nc, .slice ka 0 kc]] w fun e w' => e = .returned (.bool (bareP (⟨20, frm, tto, line, op, num, flt, text, nn, nm, 0, kd⟩ : PD) false false false false)) ∧ Onw w w' := by
  have use := And.intro hn (And.intro hk (And.intro hnn (And.intro htx (And.intro hr (And.intro hz (And.intro ht hm))))))
  clear use
  have T := Two.new w pa np pc 20 frm tto line op num flt text na nn nc ka 0 kc
  have ob := Two.start w pa np pc 20 frm tto line op num flt text na nn nc ka 0 kc
  go_enter Try.func23, Try.ntmps23
  go_wp2_with fail
  refine (l6bare_any ⟨⟨20, frm, tto, line, op, num, flt, text, nn, nm, 0, kd⟩, na, nc, ka, kc⟩ _ false false false false (by decide)).mono ?_
  rintro e w1 ⟨rfl, O1⟩
  replace T := T.onw O1
  replace ob := ob.trans O1
  clear O1
  obtain ⟨q0, hq0⟩ : ∃ q, bareP (⟨20, frm, tto, line, op, num, flt, text, nn, nm, 0, kd⟩ : PD) false false false false = q := ⟨_, rfl⟩
  rw [hq0]
  have x0 : Hid _ := hq0
  clear hq0
  cases q0
  ·
    obtain ⟨t0, c0, c1, c2, c3, c4, c5, c6, c7, c8, c9⟩ := T
    go_wp2_with fail
    go_ret
    exact ⟨ret_bool (by rw [x0.out] <;> first | rfl | exact beq_false_of_ne (by assumption) | exact beq_false_of_ne (by omega) | exact decide_eq_false (by omega) | (show _ = true; simp; done) | (show _ = true; simp; omega) | (show _ = false; simp; done) | (show _ = false; simp; omega)), ob⟩
  ·
    obtain ⟨t0, c0, c1, c2, c3, c4, c5, c6, c7, c8, c9⟩ := T
    go_wp2_with fail
    have T : Two _ _ _ _ _ _ _ _ _ _ _ _ _ _ _ _ _ _ _ := ⟨t0, c0, c1, c2, c3, c4, c5, c6, c7, c8, c9⟩
    clear t0 c0 c1 c2 c3 c4 c5 c6 c7 c8 c9
    go_ret
    exact ⟨ret_bool (by rw [x0.out] <;> first | rfl | exact beq_false_of_ne (by assumption) | exact beq_false_of_ne (by omega) | exact decide_eq_false (by omega) | (show _ = true; simp; done) | (show _ = true; simp; omega) | (show _ = false; simp; done) | (show _ = false; simp; omega)), ob⟩

set_option maxRecDepth 100000 in
set_option maxHeartbeats 2000000 in
theorem ex20_no (w : World) (np : Nat) (pm : Nat → PM) (pa : Option Addr) (pc : Nat) (frm tto line op num : Int) (flt : Nat) (text : ByteArray) (nn : Nat) (nm : Nat → ByteArray) (nk : Nat) (kd : Nat → Int) (na : Option Addr) (nc : Nat) (ka : Option Addr) (kc : Nat) (hne : nk ≠ 0)
    (hn : np ≤ 1048576) (hk : nk ≤ 1048576) (hnn : nn ≤ 1048576) (htx : text.size ≤ 1048576) (hr : ∀ j, j < nk → 0 ≤ kd j ∧ kd j < np) (hz : ∀ i, i < nn → (nm i).size ≤ 1048576) (ht : TM.At w ⟨np, pm, pa, pc⟩) (hm : PM.At w ⟨⟨20, frm, tto, line, op, num, flt, text, nn, nm, nk, kd⟩, na, nc, ka, kc⟩) :
    Calls Try.prog 23 #[.agg #[.slice pa np pc], .agg #[.int .i64 20, .int .i64 frm, .int .i64 tto, .int .i64 line, .int .i64 op, .int .i64 num, .float .f64 flt, .string text, .slice na nn nc, .slice ka nk kc]] w fun e w' => e = .returned (.bool false) ∧ Onw w w' := by
  have use := And.intro hn (And.intro hk (And.intro hnn (And.intro htx (And.intro hr (And.intro hz (And.intro ht hm))))))
  clear use
  have T := Two.new w pa np pc 20 frm tto line op num flt text na nn nc ka nk kc
  have ob := Two.start w pa np pc 20 frm tto line op num flt text na nn nc ka nk kc
  go_enter Try.func23, Try.ntmps23
  go_wp2_with fail
  go_ret
  exact ⟨ret_bool (by first | rfl | exact beq_false_of_ne (by assumption) | exact beq_false_of_ne (by omega) | exact decide_eq_false (by omega) | (show _ = true; simp; done) | (show _ = true; simp; omega) | (show _ = false; simp; done) | (show _ = false; simp; omega)), ob⟩

set_option maxRecDepth 100000 in
set_option maxHeartbeats 2000000 in
theorem ex21_0 (w : World) (np : Nat) (pm : Nat → PM) (pa : Option Addr) (pc : Nat) (frm tto line op num : Int) (flt : Nat) (text : ByteArray) (nn : Nat) (nm : Nat → ByteArray) (kd : Nat → Int) (na : Option Addr) (nc : Nat) (ka : Option Addr) (kc : Nat)
    (hn : np ≤ 1048576) (hk : 0 ≤ 1048576) (hnn : nn ≤ 1048576) (htx : text.size ≤ 1048576) (hr : ∀ j, j < 0 → 0 ≤ kd j ∧ kd j < np) (hz : ∀ i, i < nn → (nm i).size ≤ 1048576) (ht : TM.At w ⟨np, pm, pa, pc⟩) (hm : PM.At w ⟨⟨21, frm, tto, line, op, num, flt, text, nn, nm, 0, kd⟩, na, nc, ka, kc⟩) :
    Calls Try.prog 23 #[.agg #[.slice pa np pc], .agg #[.int .i64 21, .int .i64 frm, .int .i64 tto, .int .i64 line, .int .i64 op, .int .i64 num, .float .f64 flt, .string text, .slice na nn nc, .slice ka 0 kc]] w fun e w' => e = .returned (.bool (bareP (⟨21, frm, tto, line, op, num, flt, text, nn, nm, 0, kd⟩ : PD) false false false false)) ∧ Onw w w' := by
  have use := And.intro hn (And.intro hk (And.intro hnn (And.intro htx (And.intro hr (And.intro hz (And.intro ht hm))))))
  clear use
  have T := Two.new w pa np pc 21 frm tto line op num flt text na nn nc ka 0 kc
  have ob := Two.start w pa np pc 21 frm tto line op num flt text na nn nc ka 0 kc
  go_enter Try.func23, Try.ntmps23
  go_wp2_with fail
  refine (l6bare_any ⟨⟨21, frm, tto, line, op, num, flt, text, nn, nm, 0, kd⟩, na, nc, ka, kc⟩ _ false false false false (by decide)).mono ?_
  rintro e w1 ⟨rfl, O1⟩
  replace T := T.onw O1
  replace ob := ob.trans O1
  clear O1
  obtain ⟨q0, hq0⟩ : ∃ q, bareP (⟨21, frm, tto, line, op, num, flt, text, nn, nm, 0, kd⟩ : PD) false false false false = q := ⟨_, rfl⟩
  rw [hq0]
  have x0 : Hid _ := hq0
  clear hq0
  cases q0
  ·
    obtain ⟨t0, c0, c1, c2, c3, c4, c5, c6, c7, c8, c9⟩ := T
    go_wp2_with fail
    go_ret
    exact ⟨ret_bool (by rw [x0.out] <;> first | rfl | exact beq_false_of_ne (by assumption) | exact beq_false_of_ne (by omega) | exact decide_eq_false (by omega) | (show _ = true; simp; done) | (show _ = true; simp; omega) | (show _ = false; simp; done) | (show _ = false; simp; omega)), ob⟩
  ·
    obtain ⟨t0, c0, c1, c2, c3, c4, c5, c6, c7, c8, c9⟩ := T
    go_wp2_with fail
    have T : Two _ _ _ _ _ _ _ _ _ _ _ _ _ _ _ _ _ _ _ := ⟨t0, c0, c1, c2, c3, c4, c5, c6, c7, c8, c9⟩
    clear t0 c0 c1 c2 c3 c4 c5 c6 c7 c8 c9
    go_ret
    exact ⟨ret_bool (by rw [x0.out] <;> first | rfl | exact beq_false_of_ne (by assumption) | exact beq_false_of_ne (by omega) | exact decide_eq_false (by omega) | (show _ = true; simp; done) | (show _ = true; simp; omega) | (show _ = false; simp; done) | (show _ = false; simp; omega)), ob⟩

set_option maxRecDepth 100000 in
set_option maxHeartbeats 2000000 in
theorem ex21_no (w : World) (np : Nat) (pm : Nat → PM) (pa : Option Addr) (pc : Nat) (frm tto line op num : Int) (flt : Nat) (text : ByteArray) (nn : Nat) (nm : Nat → ByteArray) (nk : Nat) (kd : Nat → Int) (na : Option Addr) (nc : Nat) (ka : Option Addr) (kc : Nat) (hne : nk ≠ 0)
    (hn : np ≤ 1048576) (hk : nk ≤ 1048576) (hnn : nn ≤ 1048576) (htx : text.size ≤ 1048576) (hr : ∀ j, j < nk → 0 ≤ kd j ∧ kd j < np) (hz : ∀ i, i < nn → (nm i).size ≤ 1048576) (ht : TM.At w ⟨np, pm, pa, pc⟩) (hm : PM.At w ⟨⟨21, frm, tto, line, op, num, flt, text, nn, nm, nk, kd⟩, na, nc, ka, kc⟩) :
    Calls Try.prog 23 #[.agg #[.slice pa np pc], .agg #[.int .i64 21, .int .i64 frm, .int .i64 tto, .int .i64 line, .int .i64 op, .int .i64 num, .float .f64 flt, .string text, .slice na nn nc, .slice ka nk kc]] w fun e w' => e = .returned (.bool false) ∧ Onw w w' := by
  have use := And.intro hn (And.intro hk (And.intro hnn (And.intro htx (And.intro hr (And.intro hz (And.intro ht hm))))))
  clear use
  have T := Two.new w pa np pc 21 frm tto line op num flt text na nn nc ka nk kc
  have ob := Two.start w pa np pc 21 frm tto line op num flt text na nn nc ka nk kc
  go_enter Try.func23, Try.ntmps23
  go_wp2_with fail
  go_ret
  exact ⟨ret_bool (by first | rfl | exact beq_false_of_ne (by assumption) | exact beq_false_of_ne (by omega) | exact decide_eq_false (by omega) | (show _ = true; simp; done) | (show _ = true; simp; omega) | (show _ = false; simp; done) | (show _ = false; simp; omega)), ob⟩

set_option maxRecDepth 100000 in
set_option maxHeartbeats 2000000 in
theorem ex22_0 (w : World) (np : Nat) (pm : Nat → PM) (pa : Option Addr) (pc : Nat) (frm tto line op num : Int) (flt : Nat) (text : ByteArray) (nn : Nat) (nm : Nat → ByteArray) (kd : Nat → Int) (na : Option Addr) (nc : Nat) (ka : Option Addr) (kc : Nat)
    (hn : np ≤ 1048576) (hk : 0 ≤ 1048576) (hnn : nn ≤ 1048576) (htx : text.size ≤ 1048576) (hr : ∀ j, j < 0 → 0 ≤ kd j ∧ kd j < np) (hz : ∀ i, i < nn → (nm i).size ≤ 1048576) (ht : TM.At w ⟨np, pm, pa, pc⟩) (hm : PM.At w ⟨⟨22, frm, tto, line, op, num, flt, text, nn, nm, 0, kd⟩, na, nc, ka, kc⟩) :
    Calls Try.prog 23 #[.agg #[.slice pa np pc], .agg #[.int .i64 22, .int .i64 frm, .int .i64 tto, .int .i64 line, .int .i64 op, .int .i64 num, .float .f64 flt, .string text, .slice na nn nc, .slice ka 0 kc]] w fun e w' => e = .returned (.bool (bareP (⟨22, frm, tto, line, op, num, flt, text, nn, nm, 0, kd⟩ : PD) false false false false)) ∧ Onw w w' := by
  have use := And.intro hn (And.intro hk (And.intro hnn (And.intro htx (And.intro hr (And.intro hz (And.intro ht hm))))))
  clear use
  have T := Two.new w pa np pc 22 frm tto line op num flt text na nn nc ka 0 kc
  have ob := Two.start w pa np pc 22 frm tto line op num flt text na nn nc ka 0 kc
  go_enter Try.func23, Try.ntmps23
  go_wp2_with fail
  refine (l6bare_any ⟨⟨22, frm, tto, line, op, num, flt, text, nn, nm, 0, kd⟩, na, nc, ka, kc⟩ _ false false false false (by decide)).mono ?_
  rintro e w1 ⟨rfl, O1⟩
  replace T := T.onw O1
  replace ob := ob.trans O1
  clear O1
  obtain ⟨q0, hq0⟩ : ∃ q, bareP (⟨22, frm, tto, line, op, num, flt, text, nn, nm, 0, kd⟩ : PD) false false false false = q := ⟨_, rfl⟩
  rw [hq0]
  have x0 : Hid _ := hq0
  clear hq0
  cases q0
  ·
    obtain ⟨t0, c0, c1, c2, c3, c4, c5, c6, c7, c8, c9⟩ := T
    go_wp2_with fail
    go_ret
    exact ⟨ret_bool (by rw [x0.out] <;> first | rfl | exact beq_false_of_ne (by assumption) | exact beq_false_of_ne (by omega) | exact decide_eq_false (by omega) | (show _ = true; simp; done) | (show _ = true; simp; omega) | (show _ = false; simp; done) | (show _ = false; simp; omega)), ob⟩
  ·
    obtain ⟨t0, c0, c1, c2, c3, c4, c5, c6, c7, c8, c9⟩ := T
    go_wp2_with fail
    have T : Two _ _ _ _ _ _ _ _ _ _ _ _ _ _ _ _ _ _ _ := ⟨t0, c0, c1, c2, c3, c4, c5, c6, c7, c8, c9⟩
    clear t0 c0 c1 c2 c3 c4 c5 c6 c7 c8 c9
    go_ret
    exact ⟨ret_bool (by rw [x0.out] <;> first | rfl | exact beq_false_of_ne (by assumption) | exact beq_false_of_ne (by omega) | exact decide_eq_false (by omega) | (show _ = true; simp; done) | (show _ = true; simp; omega) | (show _ = false; simp; done) | (show _ = false; simp; omega)), ob⟩

set_option maxRecDepth 100000 in
set_option maxHeartbeats 2000000 in
theorem ex22_no (w : World) (np : Nat) (pm : Nat → PM) (pa : Option Addr) (pc : Nat) (frm tto line op num : Int) (flt : Nat) (text : ByteArray) (nn : Nat) (nm : Nat → ByteArray) (nk : Nat) (kd : Nat → Int) (na : Option Addr) (nc : Nat) (ka : Option Addr) (kc : Nat) (hne : nk ≠ 0)
    (hn : np ≤ 1048576) (hk : nk ≤ 1048576) (hnn : nn ≤ 1048576) (htx : text.size ≤ 1048576) (hr : ∀ j, j < nk → 0 ≤ kd j ∧ kd j < np) (hz : ∀ i, i < nn → (nm i).size ≤ 1048576) (ht : TM.At w ⟨np, pm, pa, pc⟩) (hm : PM.At w ⟨⟨22, frm, tto, line, op, num, flt, text, nn, nm, nk, kd⟩, na, nc, ka, kc⟩) :
    Calls Try.prog 23 #[.agg #[.slice pa np pc], .agg #[.int .i64 22, .int .i64 frm, .int .i64 tto, .int .i64 line, .int .i64 op, .int .i64 num, .float .f64 flt, .string text, .slice na nn nc, .slice ka nk kc]] w fun e w' => e = .returned (.bool false) ∧ Onw w w' := by
  have use := And.intro hn (And.intro hk (And.intro hnn (And.intro htx (And.intro hr (And.intro hz (And.intro ht hm))))))
  clear use
  have T := Two.new w pa np pc 22 frm tto line op num flt text na nn nc ka nk kc
  have ob := Two.start w pa np pc 22 frm tto line op num flt text na nn nc ka nk kc
  go_enter Try.func23, Try.ntmps23
  go_wp2_with fail
  go_ret
  exact ⟨ret_bool (by first | rfl | exact beq_false_of_ne (by assumption) | exact beq_false_of_ne (by omega) | exact decide_eq_false (by omega) | (show _ = true; simp; done) | (show _ = true; simp; omega) | (show _ = false; simp; done) | (show _ = false; simp; omega)), ob⟩
end Go.Proofs.Ytnokgdgikdgaeaa

namespace Go.Proofs.Ytnokgdgikdgaeaa
open Go.RowKit
attribute [local go_sem] run_store_float

set_option maxRecDepth 100000 in
set_option maxHeartbeats 2000000 in
theorem ex27_0 (w : World) (np : Nat) (pm : Nat → PM) (pa : Option Addr) (pc : Nat) (frm tto line op num : Int) (flt : Nat) (text : ByteArray) (nn : Nat) (nm : Nat → ByteArray) (kd : Nat → Int) (na : Option Addr) (nc : Nat) (ka : Option Addr) (kc : Nat)
    (hn : np ≤ 1048576) (hk : 0 ≤ 1048576) (hnn : nn ≤ 1048576) (htx : text.size ≤ 1048576) (hr : ∀ j, j < 0 → 0 ≤ kd j ∧ kd j < np) (hz : ∀ i, i < nn → (nm i).size ≤ 1048576) (ht : TM.At w ⟨np, pm, pa, pc⟩) (hm : PM.At w ⟨⟨27, frm, tto, line, op, num, flt, text, nn, nm, 0, kd⟩, na, nc, ka, kc⟩) :
    Calls Try.prog 23 #[.agg #[.slice pa np pc], .agg #[.int .i64 27, .int .i64 frm, .int .i64 tto, .int .i64 line, .int .i64 op, .int .i64 num, .float .f64 flt, .string text, .slice na nn nc, .slice ka 0 kc]] w fun e w' => e = .returned (.bool (bareP (⟨27, frm, tto, line, op, num, flt, text, nn, nm, 0, kd⟩ : PD) false false false false)) ∧ Onw w w' := by
  have use := And.intro hn (And.intro hk (And.intro hnn (And.intro htx (And.intro hr (And.intro hz (And.intro ht hm))))))
  clear use
  have T := Two.new w pa np pc 27 frm tto line op num flt text na nn nc ka 0 kc
  have ob := Two.start w pa np pc 27 frm tto line op num flt text na nn nc ka 0 kc
  go_enter Try.func23, Try.ntmps23
  go_wp2_with fail
  refine (l6bare_any ⟨⟨27, frm, tto, line, op, num, flt, text, nn, nm, 0, kd⟩, na, nc, ka, kc⟩ _ false false false false (by decide)).mono ?_
  rintro e w1 ⟨rfl, O1⟩
  replace T := T.onw O1
  replace ob := ob.trans O1
  clear O1
  obtain ⟨q0, hq0⟩ : ∃ q, bareP (⟨27, frm, tto, line, op, num, flt, text, nn, nm, 0, kd⟩ : PD) false false false false = q := ⟨_, rfl⟩
  rw [hq0]
  have x0 : Hid _ := hq0
  clear hq0
  cases q0
  ·
    obtain ⟨t0, c0, c1, c2, c3, c4, c5, c6, c7, c8, c9⟩ := T
    go_wp2_with fail
    go_ret
    exact ⟨ret_bool (by rw [x0.out] <;> first | rfl | exact beq_false_of_ne (by assumption) | exact beq_false_of_ne (by omega) | exact decide_eq_false (by omega) | (show _ = true; simp; done) | (show _ = true; simp; omega) | (show _ = false; simp; done) | (show _ = false; simp; omega)), ob⟩
  ·
    obtain ⟨t0, c0, c1, c2, c3, c4, c5, c6, c7, c8, c9⟩ := T
    go_wp2_with fail
    have T : Two _ _ _ _ _ _ _ _ _ _ _ _ _ _ _ _ _ _ _ := ⟨t0, c0, c1, c2, c3, c4, c5, c6, c7, c8, c9⟩
    clear t0 c0 c1 c2 c3 c4 c5 c6 c7 c8 c9
    go_ret
    exact ⟨ret_bool (by rw [x0.out] <;> first | rfl | exact beq_false_of_ne (by assumption) | exact beq_false_of_ne (by omega) | exact decide_eq_false (by omega) | (show _ = true; simp; done) | (show _ = true; simp; omega) | (show _ = false; simp; done) | (show _ = false; simp; omega)), ob⟩

set_option maxRecDepth 100000 in
set_option maxHeartbeats 2000000 in
theorem ex27_no (w : World) (np : Nat) (pm : Nat → PM) (pa : Option Addr) (pc : Nat) (frm tto line op num : Int) (flt : Nat) (text : ByteArray) (nn : Nat) (nm : Nat → ByteArray) (nk : Nat) (kd : Nat → Int) (na : Option Addr) (nc : Nat) (ka : Option Addr) (kc : Nat) (hne : nk ≠ 0)
    (hn : np ≤ 1048576) (hk : nk ≤ 1048576) (hnn : nn ≤ 1048576) (htx : text.size ≤ 1048576) (hr : ∀ j, j < nk → 0 ≤ kd j ∧ kd j < np) (hz : ∀ i, i < nn → (nm i).size ≤ 1048576) (ht : TM.At w ⟨np, pm, pa, pc⟩) (hm : PM.At w ⟨⟨27, frm, tto, line, op, num, flt, text, nn, nm, nk, kd⟩, na, nc, ka, kc⟩) :
    Calls Try.prog 23 #[.agg #[.slice pa np pc], .agg #[.int .i64 27, .int .i64 frm, .int .i64 tto, .int .i64 line, .int .i64 op, .int .i64 num, .float .f64 flt, .string text, .slice na nn nc, .slice ka nk kc]] w fun e w' => e = .returned (.bool false) ∧ Onw w w' := by
  have use := And.intro hn (And.intro hk (And.intro hnn (And.intro htx (And.intro hr (And.intro hz (And.intro ht hm))))))
  clear use
  have T := Two.new w pa np pc 27 frm tto line op num flt text na nn nc ka nk kc
  have ob := Two.start w pa np pc 27 frm tto line op num flt text na nn nc ka nk kc
  go_enter Try.func23, Try.ntmps23
  go_wp2_with fail
  go_ret
  exact ⟨ret_bool (by first | rfl | exact beq_false_of_ne (by assumption) | exact beq_false_of_ne (by omega) | exact decide_eq_false (by omega) | (show _ = true; simp; done) | (show _ = true; simp; omega) | (show _ = false; simp; done) | (show _ = false; simp; omega)), ob⟩

set_option maxRecDepth 100000 in
set_option maxHeartbeats 2000000 in
theorem ex23_0 (w : World) (np : Nat) (pm : Nat → PM) (pa : Option Addr) (pc : Nat) (frm tto line op num : Int) (flt : Nat) (text : ByteArray) (nn : Nat) (nm : Nat → ByteArray) (kd : Nat → Int) (na : Option Addr) (nc : Nat) (ka : Option Addr) (kc : Nat)
    (hn : np ≤ 1048576) (hk : 0 ≤ 1048576) (hnn : nn ≤ 1048576) (htx : text.size ≤ 1048576) (hr : ∀ j, j < 0 → 0 ≤ kd j ∧ kd j < np) (hz : ∀ i, i < nn → (nm i).size ≤ 1048576) (ht : TM.At w ⟨np, pm, pa, pc⟩) (hm : PM.At w ⟨⟨23, frm, tto, line, op, num, flt, text, nn, nm, 0, kd⟩, na, nc, ka, kc⟩) :
    Calls Try.prog 23 #[.agg #[.slice pa np pc], .agg #[.int .i64 23, .int .i64 frm, .int .i64 tto, .int .i64 line, .int .i64 op, .int .i64 num, .float .f64 flt, .string text, .slice na nn nc, .slice ka 0 kc]] w fun e w' => e = .returned (.bool (bareP (⟨23, frm, tto, line, op, num, flt, text, nn, nm, 0, kd⟩ : PD) false true false false)) ∧ Onw w w' := by
  have use := And.intro hn (And.intro hk (And.intro hnn (And.intro htx (And.intro hr (And.intro hz (And.intro ht hm))))))
  clear use
  have T := Two.new w pa np pc 23 frm tto line op num flt text na nn nc ka 0 kc
  have ob := Two.start w pa np pc 23 frm tto line op num flt text na nn nc ka 0 kc
  go_enter Try.func23, Try.ntmps23
  go_wp2_with fail
  refine (l6bare_any ⟨⟨23, frm, tto, line, op, num, flt, text, nn, nm, 0, kd⟩, na, nc, ka, kc⟩ _ false true false false (by decide)).mono ?_
  rintro e w1 ⟨rfl, O1⟩
  replace T := T.onw O1
  replace ob := ob.trans O1
  clear O1
  obtain ⟨q0, hq0⟩ : ∃ q, bareP (⟨23, frm, tto, line, op, num, flt, text, nn, nm, 0, kd⟩ : PD) false true false false = q := ⟨_, rfl⟩
  rw [hq0]
  have x0 : Hid _ := hq0
  clear hq0
  cases q0
  ·
    obtain ⟨t0, c0, c1, c2, c3, c4, c5, c6, c7, c8, c9⟩ := T
    go_wp2_with fail
    go_ret
    exact ⟨ret_bool (by rw [x0.out] <;> first | rfl | exact beq_false_of_ne (by assumption) | exact beq_false_of_ne (by omega) | exact decide_eq_false (by omega) | (show _ = true; simp; done) | (show _ = true; simp; omega) | (show _ = false; simp; done) | (show _ = false; simp; omega)), ob⟩
  ·
    obtain ⟨t0, c0, c1, c2, c3, c4, c5, c6, c7, c8, c9⟩ := T
    go_wp2_with fail
    have T : Two _ _ _ _ _ _ _ _ _ _ _ _ _ _ _ _ _ _ _ := ⟨t0, c0, c1, c2, c3, c4, c5, c6, c7, c8, c9⟩
    clear t0 c0 c1 c2 c3 c4 c5 c6 c7 c8 c9
    go_ret
    exact ⟨ret_bool (by rw [x0.out] <;> first | rfl | exact beq_false_of_ne (by assumption) | exact beq_false_of_ne (by omega) | exact decide_eq_false (by omega) | (show _ = true; simp; done) | (show _ = true; simp; omega) | (show _ = false; simp; done) | (show _ = false; simp; omega)), ob⟩

set_option maxRecDepth 100000 in
set_option maxHeartbeats 2000000 in
theorem ex23_no (w : World) (np : Nat) (pm : Nat → PM) (pa : Option Addr) (pc : Nat) (frm tto line op num : Int) (flt : Nat) (text : ByteArray) (nn : Nat) (nm : Nat → ByteArray) (nk : Nat) (kd : Nat → Int) (na : Option Addr) (nc : Nat) (ka : Option Addr) (kc : Nat) (hne : nk ≠ 0)
    (hn : np ≤ 1048576) (hk : nk ≤ 1048576) (hnn : nn ≤ 1048576) (htx : text.size ≤ 1048576) (hr : ∀ j, j < nk → 0 ≤ kd j ∧ kd j < np) (hz : ∀ i, i < nn → (nm i).size ≤ 1048576) (ht : TM.At w ⟨np, pm, pa, pc⟩) (hm : PM.At w ⟨⟨23, frm, tto, line, op, num, flt, text, nn, nm, nk, kd⟩, na, nc, ka, kc⟩) :
    Calls Try.prog 23 #[.agg #[.slice pa np pc], .agg #[.int .i64 23, .int .i64 frm, .int .i64 tto, .int .i64 line, .int .i64 op, .int .i64 num, .float .f64 flt, .string text, .slice na nn nc, .slice ka nk kc]] w fun e w' => e = .returned (.bool false) ∧ Onw w w' := by
  have use := And.intro hn (And.intro hk (And.intro hnn (And.intro htx (And.intro hr (And.intro hz (And.intro ht hm))))))
  clear use
  have T := Two.new w pa np pc 23 frm tto line op num flt text na nn nc ka nk kc
  have ob := Two.start w pa np pc 23 frm tto line op num flt text na nn nc ka nk kc
  go_enter Try.func23, Try.ntmps23
  go_wp2_with fail
  go_ret
  exact ⟨ret_bool (by first | rfl | exact beq_false_of_ne (by assumption) | exact beq_false_of_ne (by omega) | exact decide_eq_false (by omega) | (show _ = true; simp; done) | (show _ = true; simp; omega) | (show _ = false; simp; done) | (show _ = false; simp; omega)), ob⟩

set_option maxRecDepth 100000 in
set_option maxHeartbeats 2000000 in
theorem ex25_0 (w : World) (np : Nat) (pm : Nat → PM) (pa : Option Addr) (pc : Nat) (frm tto line op num : Int) (flt : Nat) (text : ByteArray) (nn : Nat) (nm : Nat → ByteArray) (kd : Nat → Int) (na : Option Addr) (nc : Nat) (ka : Option Addr) (kc : Nat) (hlen : text.size ≤ 4000)
    (hn : np ≤ 1048576) (hk : 0 ≤ 1048576) (hnn : nn ≤ 1048576) (htx : text.size ≤ 1048576) (hr : ∀ j, j < 0 → 0 ≤ kd j ∧ kd j < np) (hz : ∀ i, i < nn → (nm i).size ≤ 1048576) (ht : TM.At w ⟨np, pm, pa, pc⟩) (hm : PM.At w ⟨⟨25, frm, tto, line, op, num, flt, text, nn, nm, 0, kd⟩, na, nc, ka, kc⟩) :
    Calls Try.prog 23 #[.agg #[.slice pa np pc], .agg #[.int .i64 25, .int .i64 frm, .int .i64 tto, .int .i64 line, .int .i64 op, .int .i64 num, .float .f64 flt, .string text, .slice na nn nc, .slice ka 0 kc]] w fun e w' => e = .returned (.bool (bareP (⟨25, frm, tto, line, op, num, flt, text, nn, nm, 0, kd⟩ : PD) false false true false)) ∧ Onw w w' := by
  have use := And.intro hn (And.intro hk (And.intro hnn (And.intro htx (And.intro hr (And.intro hz (And.intro ht hm))))))
  clear use
  have T := Two.new w pa np pc 25 frm tto line op num flt text na nn nc ka 0 kc
  have ob := Two.start w pa np pc 25 frm tto line op num flt text na nn nc ka 0 kc
  go_enter Try.func23, Try.ntmps23
  go_wp2_with fail
  refine (l6bare_any ⟨⟨25, frm, tto, line, op, num, flt, text, nn, nm, 0, kd⟩, na, nc, ka, kc⟩ _ false false true false (by decide)).mono ?_
  rintro e w1 ⟨rfl, O1⟩
  replace T := T.onw O1
  replace ob := ob.trans O1
  clear O1
  obtain ⟨q0, hq0⟩ : ∃ q, bareP (⟨25, frm, tto, line, op, num, flt, text, nn, nm, 0, kd⟩ : PD) false false true false = q := ⟨_, rfl⟩
  rw [hq0]
  have x0 : Hid _ := hq0
  clear hq0
  cases q0
  ·
    obtain ⟨t0, c0, c1, c2, c3, c4, c5, c6, c7, c8, c9⟩ := T
    go_wp2_with fail
    go_ret
    exact ⟨ret_bool (by rw [x0.out] <;> first | rfl | exact beq_false_of_ne (by assumption) | exact beq_false_of_ne (by omega) | exact decide_eq_false (by omega) | (show _ = true; simp; done) | (show _ = true; simp; omega) | (show _ = false; simp; done) | (show _ = false; simp; omega)), ob⟩
  ·
    obtain ⟨t0, c0, c1, c2, c3, c4, c5, c6, c7, c8, c9⟩ := T
    go_wp2_with fail
    have T : Two _ _ _ _ _ _ _ _ _ _ _ _ _ _ _ _ _ _ _ := ⟨t0, c0, c1, c2, c3, c4, c5, c6, c7, c8, c9⟩
    clear t0 c0 c1 c2 c3 c4 c5 c6 c7 c8 c9
    go_ret
    exact ⟨ret_bool (by rw [x0.out] <;> first | rfl | exact beq_false_of_ne (by assumption) | exact beq_false_of_ne (by omega) | exact decide_eq_false (by omega) | (show _ = true; simp; done) | (show _ = true; simp; omega) | (show _ = false; simp; done) | (show _ = false; simp; omega)), ob⟩

set_option maxRecDepth 100000 in
set_option maxHeartbeats 2000000 in
theorem ex25_no (w : World) (np : Nat) (pm : Nat → PM) (pa : Option Addr) (pc : Nat) (frm tto line op num : Int) (flt : Nat) (text : ByteArray) (nn : Nat) (nm : Nat → ByteArray) (nk : Nat) (kd : Nat → Int) (na : Option Addr) (nc : Nat) (ka : Option Addr) (kc : Nat) (hne : nk ≠ 0)
    (hn : np ≤ 1048576) (hk : nk ≤ 1048576) (hnn : nn ≤ 1048576) (htx : text.size ≤ 1048576) (hr : ∀ j, j < nk → 0 ≤ kd j ∧ kd j < np) (hz : ∀ i, i < nn → (nm i).size ≤ 1048576) (ht : TM.At w ⟨np, pm, pa, pc⟩) (hm : PM.At w ⟨⟨25, frm, tto, line, op, num, flt, text, nn, nm, nk, kd⟩, na, nc, ka, kc⟩) :
    Calls Try.prog 23 #[.agg #[.slice pa np pc], .agg #[.int .i64 25, .int .i64 frm, .int .i64 tto, .int .i64 line, .int .i64 op, .int .i64 num, .float .f64 flt, .string text, .slice na nn nc, .slice ka nk kc]] w fun e w' => e = .returned (.bool false) ∧ Onw w w' := by
  have use := And.intro hn (And.intro hk (And.intro hnn (And.intro htx (And.intro hr (And.intro hz (And.intro ht hm))))))
  clear use
  have T := Two.new w pa np pc 25 frm tto line op num flt text na nn nc ka nk kc
  have ob := Two.start w pa np pc 25 frm tto line op num flt text na nn nc ka nk kc
  go_enter Try.func23, Try.ntmps23
  go_wp2_with fail
  go_ret
  exact ⟨ret_bool (by first | rfl | exact beq_false_of_ne (by assumption) | exact beq_false_of_ne (by omega) | exact decide_eq_false (by omega) | (show _ = true; simp; done) | (show _ = true; simp; omega) | (show _ = false; simp; done) | (show _ = false; simp; omega)), ob⟩
end Go.Proofs.Ytnokgdgikdgaeaa

namespace Go.Proofs.Ytnokgdgikdgaeaa
open Go.RowKit
attribute [local go_sem] run_store_float

set_option maxRecDepth 100000 in
set_option maxHeartbeats 2000000 in
theorem ex25_long (w : World) (np : Nat) (pm : Nat → PM) (pa : Option Addr) (pc : Nat) (frm tto line op num : Int) (flt : Nat) (text : ByteArray) (nn : Nat) (nm : Nat → ByteArray) (kd : Nat → Int) (na : Option Addr) (nc : Nat) (ka : Option Addr) (kc : Nat) (hlen : 4000 < text.size)
    (hn : np ≤ 1048576) (hk : 0 ≤ 1048576) (hnn : nn ≤ 1048576) (htx : text.size ≤ 1048576) (hr : ∀ j, j < 0 → 0 ≤ kd j ∧ kd j < np) (hz : ∀ i, i < nn → (nm i).size ≤ 1048576) (ht : TM.At w ⟨np, pm, pa, pc⟩) (hm : PM.At w ⟨⟨25, frm, tto, line, op, num, flt, text, nn, nm, 0, kd⟩, na, nc, ka, kc⟩) :
    Calls Try.prog 23 #[.agg #[.slice pa np pc], .agg #[.int .i64 25, .int .i64 frm, .int .i64 tto, .int .i64 line, .int .i64 op, .int .i64 num, .float .f64 flt, .string text, .slice na nn nc, .slice ka 0 kc]] w fun e w' => e = .returned (.bool false) ∧ Onw w w' := by
  have use := And.intro hn (And.intro hk (And.intro hnn (And.intro htx (And.intro hr (And.intro hz (And.intro ht hm))))))
  clear use
  have T := Two.new w pa np pc 25 frm tto line op num flt text na nn nc ka 0 kc
  have ob := Two.start w pa np pc 25 frm tto line op num flt text na nn nc ka 0 kc
  go_enter Try.func23, Try.ntmps23
  go_wp2_with fail
  refine (l6bare_any ⟨⟨25, frm, tto, line, op, num, flt, text, nn, nm, 0, kd⟩, na, nc, ka, kc⟩ _ false false true false (by decide)).mono ?_
  rintro e w1 ⟨rfl, O1⟩
  replace T := T.onw O1
  replace ob := ob.trans O1
  clear O1
  obtain ⟨q0, hq0⟩ : ∃ q, bareP (⟨25, frm, tto, line, op, num, flt, text, nn, nm, 0, kd⟩ : PD) false false true false = q := ⟨_, rfl⟩
  rw [hq0]
  have x0 : Hid _ := hq0
  clear hq0
  cases q0
  ·
    obtain ⟨t0, c0, c1, c2, c3, c4, c5, c6, c7, c8, c9⟩ := T
    go_wp2_with fail
    go_ret
    exact ⟨ret_bool (by first | rfl | exact beq_false_of_ne (by assumption) | exact beq_false_of_ne (by omega) | exact decide_eq_false (by omega) | (show _ = true; simp; done) | (show _ = true; simp; omega) | (show _ = false; simp; done) | (show _ = false; simp; omega)), ob⟩
  ·
    obtain ⟨t0, c0, c1, c2, c3, c4, c5, c6, c7, c8, c9⟩ := T
    go_wp2_with fail
    have T : Two _ _ _ _ _ _ _ _ _ _ _ _ _ _ _ _ _ _ _ := ⟨t0, c0, c1, c2, c3, c4, c5, c6, c7, c8, c9⟩
    clear t0 c0 c1 c2 c3 c4 c5 c6 c7 c8 c9
    go_ret
    exact ⟨ret_bool (by first | rfl | exact beq_false_of_ne (by assumption) | exact beq_false_of_ne (by omega) | exact decide_eq_false (by omega) | (show _ = true; simp; done) | (show _ = true; simp; omega) | (show _ = false; simp; done) | (show _ = false; simp; omega)), ob⟩

set_option maxRecDepth 100000 in
set_option maxHeartbeats 2000000 in
theorem ex26_0 (w : World) (np : Nat) (pm : Nat → PM) (pa : Option Addr) (pc : Nat) (frm tto line op num : Int) (flt : Nat) (text : ByteArray) (nn : Nat) (nm : Nat → ByteArray) (kd : Nat → Int) (na : Option Addr) (nc : Nat) (ka : Option Addr) (kc : Nat)
    (hn : np ≤ 1048576) (hk : 0 ≤ 1048576) (hnn : nn ≤ 1048576) (htx : text.size ≤ 1048576) (hr : ∀ j, j < 0 → 0 ≤ kd j ∧ kd j < np) (hz : ∀ i, i < nn → (nm i).size ≤ 1048576) (ht : TM.At w ⟨np, pm, pa, pc⟩) (hm : PM.At w ⟨⟨26, frm, tto, line, op, num, flt, text, nn, nm, 0, kd⟩, na, nc, ka, kc⟩) :
    Calls Try.prog 23 #[.agg #[.slice pa np pc], .agg #[.int .i64 26, .int .i64 frm, .int .i64 tto, .int .i64 line, .int .i64 op, .int .i64 num, .float .f64 flt, .string text, .slice na nn nc, .slice ka 0 kc]] w fun e w' => e = .returned (.bool (((bareP (⟨26, frm, tto, line, op, num, flt, text, nn, nm, 0, kd⟩ : PD) false false true false) && nameB text))) ∧ Onw w w' := by
  have use := And.intro hn (And.intro hk (And.intro hnn (And.intro htx (And.intro hr (And.intro hz (And.intro ht hm))))))
  clear use
  have T := Two.new w pa np pc 26 frm tto line op num flt text na nn nc ka 0 kc
  have ob := Two.start w pa np pc 26 frm tto line op num flt text na nn nc ka 0 kc
  go_enter Try.func23, Try.ntmps23
  go_wp2_with fail
  refine (l6bare_any ⟨⟨26, frm, tto, line, op, num, flt, text, nn, nm, 0, kd⟩, na, nc, ka, kc⟩ _ false false true false (by decide)).mono ?_
  rintro e w1 ⟨rfl, O1⟩
  replace T := T.onw O1
  replace ob := ob.trans O1
  clear O1
  obtain ⟨q0, hq0⟩ : ∃ q, bareP (⟨26, frm, tto, line, op, num, flt, text, nn, nm, 0, kd⟩ : PD) false false true false = q := ⟨_, rfl⟩
  rw [hq0]
  have x0 : Hid _ := hq0
  clear hq0
  cases q0
  ·
    obtain ⟨t0, c0, c1, c2, c3, c4, c5, c6, c7, c8, c9⟩ := T
    go_wp2_with fail
    go_ret
    exact ⟨ret_bool (by rw [x0.out] <;> first | rfl | exact beq_false_of_ne (by assumption) | exact beq_false_of_ne (by omega) | exact decide_eq_false (by omega) | (show _ = true; simp; done) | (show _ = true; simp; omega) | (show _ = false; simp; done) | (show _ = false; simp; omega)), ob⟩
  ·
    obtain ⟨t0, c0, c1, c2, c3, c4, c5, c6, c7, c8, c9⟩ := T
    go_wp2_with fail
    have T : Two _ _ _ _ _ _ _ _ _ _ _ _ _ _ _ _ _ _ _ := ⟨t0, c0, c1, c2, c3, c4, c5, c6, c7, c8, c9⟩
    clear t0 c0 c1 c2 c3 c4 c5 c6 c7 c8 c9
    refine (l6nameok_any text _ htx).mono ?_
    rintro e w1 ⟨rfl, O1⟩
    replace T := T.onw O1
    replace ob := ob.trans O1
    clear O1
    obtain ⟨q1, hq1⟩ : ∃ q, nameB text = q := ⟨_, rfl⟩
    rw [hq1]
    have x1 : Hid _ := hq1
    clear hq1
    cases q1
    ·
      obtain ⟨t0, c0, c1, c2, c3, c4, c5, c6, c7, c8, c9⟩ := T
      go_wp2_with fail
      go_ret
      exact ⟨ret_bool (by rw [x0.out, x1.out] <;> first | rfl | exact beq_false_of_ne (by assumption) | exact beq_false_of_ne (by omega) | exact decide_eq_false (by omega) | (show _ = true; simp; done) | (show _ = true; simp; omega) | (show _ = false; simp; done) | (show _ = false; simp; omega)), ob⟩
    ·
      obtain ⟨t0, c0, c1, c2, c3, c4, c5, c6, c7, c8, c9⟩ := T
      go_wp2_with fail
      have T : Two _ _ _ _ _ _ _ _ _ _ _ _ _ _ _ _ _ _ _ := ⟨t0, c0, c1, c2, c3, c4, c5, c6, c7, c8, c9⟩
      clear t0 c0 c1 c2 c3 c4 c5 c6 c7 c8 c9
      go_ret
      exact ⟨ret_bool (by rw [x0.out, x1.out] <;> first | rfl | exact beq_false_of_ne (by assumption) | exact beq_false_of_ne (by omega) | exact decide_eq_false (by omega) | (show _ = true; simp; done) | (show _ = true; simp; omega) | (show _ = false; simp; done) | (show _ = false; simp; omega)), ob⟩

set_option maxRecDepth 100000 in
set_option maxHeartbeats 2000000 in
theorem ex26_no (w : World) (np : Nat) (pm : Nat → PM) (pa : Option Addr) (pc : Nat) (frm tto line op num : Int) (flt : Nat) (text : ByteArray) (nn : Nat) (nm : Nat → ByteArray) (nk : Nat) (kd : Nat → Int) (na : Option Addr) (nc : Nat) (ka : Option Addr) (kc : Nat) (hne : nk ≠ 0)
    (hn : np ≤ 1048576) (hk : nk ≤ 1048576) (hnn : nn ≤ 1048576) (htx : text.size ≤ 1048576) (hr : ∀ j, j < nk → 0 ≤ kd j ∧ kd j < np) (hz : ∀ i, i < nn → (nm i).size ≤ 1048576) (ht : TM.At w ⟨np, pm, pa, pc⟩) (hm : PM.At w ⟨⟨26, frm, tto, line, op, num, flt, text, nn, nm, nk, kd⟩, na, nc, ka, kc⟩) :
    Calls Try.prog 23 #[.agg #[.slice pa np pc], .agg #[.int .i64 26, .int .i64 frm, .int .i64 tto, .int .i64 line, .int .i64 op, .int .i64 num, .float .f64 flt, .string text, .slice na nn nc, .slice ka nk kc]] w fun e w' => e = .returned (.bool false) ∧ Onw w w' := by
  have use := And.intro hn (And.intro hk (And.intro hnn (And.intro htx (And.intro hr (And.intro hz (And.intro ht hm))))))
  clear use
  have T := Two.new w pa np pc 26 frm tto line op num flt text na nn nc ka nk kc
  have ob := Two.start w pa np pc 26 frm tto line op num flt text na nn nc ka nk kc
  go_enter Try.func23, Try.ntmps23
  go_wp2_with fail
  go_ret
  exact ⟨ret_bool (by first | rfl | exact beq_false_of_ne (by assumption) | exact beq_false_of_ne (by omega) | exact decide_eq_false (by omega) | (show _ = true; simp; done) | (show _ = true; simp; omega) | (show _ = false; simp; done) | (show _ = false; simp; omega)), ob⟩

set_option maxRecDepth 100000 in
set_option maxHeartbeats 2000000 in
theorem ex28_2 (w : World) (np : Nat) (pm : Nat → PM) (pa : Option Addr) (pc : Nat) (frm tto line op num : Int) (flt : Nat) (text : ByteArray) (nn : Nat) (nm : Nat → ByteArray) (kd : Nat → Int) (na : Option Addr) (nc : Nat) (ka : Option Addr) (kc : Nat)
    (hn : np ≤ 1048576) (hk : 2 ≤ 1048576) (hnn : nn ≤ 1048576) (htx : text.size ≤ 1048576) (hr : ∀ j, j < 2 → 0 ≤ kd j ∧ kd j < np) (hz : ∀ i, i < nn → (nm i).size ≤ 1048576) (ht : TM.At w ⟨np, pm, pa, pc⟩) (hm : PM.At w ⟨⟨28, frm, tto, line, op, num, flt, text, nn, nm, 2, kd⟩, na, nc, ka, kc⟩) :
    Calls Try.prog 23 #[.agg #[.slice pa np pc], .agg #[.int .i64 28, .int .i64 frm, .int .i64 tto, .int .i64 line, .int .i64 op, .int .i64 num, .float .f64 flt, .string text, .slice na nn nc, .slice ka 2 kc]] w fun e w' => e = .returned (.bool (((exprsP (pdOf pm) (⟨28, frm, tto, line, op, num, flt, text, nn, nm, 2, kd⟩ : PD) 0 2) && bareP (⟨28, frm, tto, line, op, num, flt, text, nn, nm, 2, kd⟩ : PD) false false false false))) ∧ Onw w w' := by
  have use := And.intro hn (And.intro hk (And.intro hnn (And.intro htx (And.intro hr (And.intro hz (And.intro ht hm))))))
  clear use
  have T := Two.new w pa np pc 28 frm tto line op num flt text na nn nc ka 2 kc
  have ob := Two.start w pa np pc 28 frm tto line op num flt text na nn nc ka 2 kc
  go_enter Try.func23, Try.ntmps23
  go_wp2_with fail
  refine (l6exprs_any ⟨np, pm, pa, pc⟩ ⟨⟨28, frm, tto, line, op, num, flt, text, nn, nm, 2, kd⟩, na, nc, ka, kc⟩ 0 2 _ hn (by omega) (by dsimp only; omega) hk hr (TM.At.onw ob ht) (hm.2.onw ob)).mono ?_
  rintro e w1 ⟨rfl, O1⟩
  replace T := T.onw O1
  replace ob := ob.trans O1
  clear O1
  obtain ⟨q0, hq0⟩ : ∃ q, exprsP (pdOf pm) (⟨28, frm, tto, line, op, num, flt, text, nn, nm, 2, kd⟩ : PD) 0 2 = q := ⟨_, rfl⟩
  rw [hq0]
  have x0 : Hid _ := hq0
  clear hq0
  cases q0
  ·
    obtain ⟨t0, c0, c1, c2, c3, c4, c5, c6, c7, c8, c9⟩ := T
    go_wp2_with fail
    go_ret
    exact ⟨ret_bool (by rw [x0.out] <;> first | rfl | exact beq_false_of_ne (by assumption) | exact beq_false_of_ne (by omega) | exact decide_eq_false (by omega) | (show _ = true; simp; done) | (show _ = true; simp; omega) | (show _ = false; simp; done) | (show _ = false; simp; omega)), ob⟩
  ·
    obtain ⟨t0, c0, c1, c2, c3, c4, c5, c6, c7, c8, c9⟩ := T
    go_wp2_with fail
    have T : Two _ _ _ _ _ _ _ _ _ _ _ _ _ _ _ _ _ _ _ := ⟨t0, c0, c1, c2, c3, c4, c5, c6, c7, c8, c9⟩
    clear t0 c0 c1 c2 c3 c4 c5 c6 c7 c8 c9
    refine (l6bare_any ⟨⟨28, frm, tto, line, op, num, flt, text, nn, nm, 2, kd⟩, na, nc, ka, kc⟩ _ false false false false (by decide)).mono ?_
    rintro e w1 ⟨rfl, O1⟩
    replace T := T.onw O1
    replace ob := ob.trans O1
    clear O1
    obtain ⟨q1, hq1⟩ : ∃ q, bareP (⟨28, frm, tto, line, op, num, flt, text, nn, nm, 2, kd⟩ : PD) false false false false = q := ⟨_, rfl⟩
    rw [hq1]
    have x1 : Hid _ := hq1
    clear hq1
    cases q1
    ·
      obtain ⟨t0, c0, c1, c2, c3, c4, c5, c6, c7, c8, c9⟩ := T
      go_wp2_with fail
      go_ret
      exact ⟨ret_bool (by rw [x0.out, x1.out] <;> first | rfl | exact beq_false_of_ne (by assumption) | exact beq_false_of_ne (by omega) | exact decide_eq_false (by omega) | (show _ = true; simp; done) | (show _ = true; simp; omega) | (show _ = false; simp; done) | (show _ = false; simp; omega)), ob⟩
    ·
      obtain ⟨t0, c0, c1, c2, c3, c4, c5, c6, c7, c8, c9⟩ := T
      go_wp2_with fail
      have T : Two _ _ _ _ _ _ _ _ _ _ _ _ _ _ _ _ _ _ _ := ⟨t0, c0, c1, c2, c3, c4, c5, c6, c7, c8, c9⟩
      clear t0 c0 c1 c2 c3 c4 c5 c6 c7 c8 c9
      go_ret
      exact ⟨ret_bool (by rw [x0.out, x1.out] <;> first | rfl | exact beq_false_of_ne (by assumption) | exact beq_false_of_ne (by omega) | exact decide_eq_false (by omega) | (show _ = true; simp; done) | (show _ = true; simp; omega) | (show _ = false; simp; done) | (show _ = false; simp; omega)), ob⟩

set_option maxRecDepth 100000 in
set_option maxHeartbeats 2000000 in
theorem ex28_no (w : World) (np : Nat) (pm : Nat → PM) (pa : Option Addr) (pc : Nat) (frm tto line op num : Int) (flt : Nat) (text : ByteArray) (nn : Nat) (nm : Nat → ByteArray) (nk : Nat) (kd : Nat → Int) (na : Option Addr) (nc : Nat) (ka : Option Addr) (kc : Nat) (hne : nk ≠ 2)
    (hn : np ≤ 1048576) (hk : nk ≤ 1048576) (hnn : nn ≤ 1048576) (htx : text.size ≤ 1048576) (hr : ∀ j, j < nk → 0 ≤ kd j ∧ kd j < np) (hz : ∀ i, i < nn → (nm i).size ≤ 1048576) (ht : TM.At w ⟨np, pm, pa, pc⟩) (hm : PM.At w ⟨⟨28, frm, tto, line, op, num, flt, text, nn, nm, nk, kd⟩, na, nc, ka, kc⟩) :
    Calls Try.prog 23 #[.agg #[.slice pa np pc], .agg #[.int .i64 28, .int .i64 frm, .int .i64 tto, .int .i64 line, .int .i64 op, .int .i64 num, .float .f64 flt, .string text, .slice na nn nc, .slice ka nk kc]] w fun e w' => e = .returned (.bool false) ∧ Onw w w' := by
  have use := And.intro hn (And.intro hk (And.intro hnn (And.intro htx (And.intro hr (And.intro hz (And.intro ht hm))))))
  clear use
  have T := Two.new w pa np pc 28 frm tto line op num flt text na nn nc ka nk kc
  have ob := Two.start w pa np pc 28 frm tto line op num flt text na nn nc ka nk kc
  go_enter Try.func23, Try.ntmps23
  go_wp2_with fail
  go_ret
  exact ⟨ret_bool (by first | rfl | exact beq_false_of_ne (by assumption) | exact beq_false_of_ne (by omega) | exact decide_eq_false (by omega) | (show _ = true; simp; done) | (show _ = true; simp; omega) | (show _ = false; simp; done) | (show _ = false; simp; omega)), ob⟩

set_option maxRecDepth 100000 in
set_option maxHeartbeats 2000000 in
theorem ex29_2 (w : World) (np : Nat) (pm : Nat → PM) (pa : Option Addr) (pc : Nat) (frm tto line op num : Int) (flt : Nat) (text : ByteArray) (nn : Nat) (nm : Nat → ByteArray) (kd : Nat → Int) (na : Option Addr) (nc : Nat) (ka : Option Addr) (kc : Nat)
    (hn : np ≤ 1048576) (hk : 2 ≤ 1048576) (hnn : nn ≤ 1048576) (htx : text.size ≤ 1048576) (hr : ∀ j, j < 2 → 0 ≤ kd j ∧ kd j < np) (hz : ∀ i, i < nn → (nm i).size ≤ 1048576) (ht : TM.At w ⟨np, pm, pa, pc⟩) (hm : PM.At w ⟨⟨29, frm, tto, line, op, num, flt, text, nn, nm, 2, kd⟩, na, nc, ka, kc⟩) :
    Calls Try.prog 23 #[.agg #[.slice pa np pc], .agg #[.int .i64 29, .int .i64 frm, .int .i64 tto, .int .i64 line, .int .i64 op, .int .i64 num, .float .f64 flt, .string text, .slice na nn nc, .slice ka 2 kc]] w fun e w' => e = .returned (.bool (((exprsP (pdOf pm) (⟨29, frm, tto, line, op, num, flt, text, nn, nm, 2, kd⟩ : PD) 0 2) && bareP (⟨29, frm, tto, line, op, num, flt, text, nn, nm, 2, kd⟩ : PD) false false false false))) ∧ Onw w w' := by
  have use := And.intro hn (And.intro hk (And.intro hnn (And.intro htx (And.intro hr (And.intro hz (And.intro ht hm))))))
  clear use
  have T := Two.new w pa np pc 29 frm tto line op num flt text na nn nc ka 2 kc
  have ob := Two.start w pa np pc 29 frm tto line op num flt text na nn nc ka 2 kc
  go_enter Try.func23, Try.ntmps23
  go_wp2_with fail
  refine (l6exprs_any ⟨np, pm, pa, pc⟩ ⟨⟨29, frm, tto, line, op, num, flt, text, nn, nm, 2, kd⟩, na, nc, ka, kc⟩ 0 2 _ hn (by omega) (by dsimp only; omega) hk hr (TM.At.onw ob ht) (hm.2.onw ob)).mono ?_
  rintro e w1 ⟨rfl, O1⟩
  replace T := T.onw O1
  replace ob := ob.trans O1
  clear O1
  obtain ⟨q0, hq0⟩ : ∃ q, exprsP (pdOf pm) (⟨29, frm, tto, line, op, num, flt, text, nn, nm, 2, kd⟩ : PD) 0 2 = q := ⟨_, rfl⟩
  rw [hq0]
  have x0 : Hid _ := hq0
  clear hq0
  cases q0
  ·
    obtain ⟨t0, c0, c1, c2, c3, c4, c5, c6, c7, c8, c9⟩ := T
    go_wp2_with fail
    go_ret
    exact ⟨ret_bool (by rw [x0.out] <;> first | rfl | exact beq_false_of_ne (by assumption) | exact beq_false_of_ne (by omega) | exact decide_eq_false (by omega) | (show _ = true; simp; done) | (show _ = true; simp; omega) | (show _ = false; simp; done) | (show _ = false; simp; omega)), ob⟩
  ·
    obtain ⟨t0, c0, c1, c2, c3, c4, c5, c6, c7, c8, c9⟩ := T
    go_wp2_with fail
    have T : Two _ _ _ _ _ _ _ _ _ _ _ _ _ _ _ _ _ _ _ := ⟨t0, c0, c1, c2, c3, c4, c5, c6, c7, c8, c9⟩
    clear t0 c0 c1 c2 c3 c4 c5 c6 c7 c8 c9
    refine (l6bare_any ⟨⟨29, frm, tto, line, op, num, flt, text, nn, nm, 2, kd⟩, na, nc, ka, kc⟩ _ false false false false (by decide)).mono ?_
    rintro e w1 ⟨rfl, O1⟩
    replace T := T.onw O1
    replace ob := ob.trans O1
    clear O1
    obtain ⟨q1, hq1⟩ : ∃ q, bareP (⟨29, frm, tto, line, op, num, flt, text, nn, nm, 2, kd⟩ : PD) false false false false = q := ⟨_, rfl⟩
    rw [hq1]
    have x1 : Hid _ := hq1
    clear hq1
    cases q1
    ·
      obtain ⟨t0, c0, c1, c2, c3, c4, c5, c6, c7, c8, c9⟩ := T
      go_wp2_with fail
      go_ret
      exact ⟨ret_bool (by rw [x0.out, x1.out] <;> first | rfl | exact beq_false_of_ne (by assumption) | exact beq_false_of_ne (by omega) | exact decide_eq_false (by omega) | (show _ = true; simp; done) | (show _ = true; simp; omega) | (show _ = false; simp; done) | (show _ = false; simp; omega)), ob⟩
    ·
      obtain ⟨t0, c0, c1, c2, c3, c4, c5, c6, c7, c8, c9⟩ := T
      go_wp2_with fail
      have T : Two _ _ _ _ _ _ _ _ _ _ _ _ _ _ _ _ _ _ _ := ⟨t0, c0, c1, c2, c3, c4, c5, c6, c7, c8, c9⟩
      clear t0 c0 c1 c2 c3 c4 c5 c6 c7 c8 c9
      go_ret
      exact ⟨ret_bool (by rw [x0.out, x1.out] <;> first | rfl | exact beq_false_of_ne (by assumption) | exact beq_false_of_ne (by omega) | exact decide_eq_false (by omega) | (show _ = true; simp; done) | (show _ = true; simp; omega) | (show _ = false; simp; done) | (show _ = false; simp; omega)), ob⟩
end Go.Proofs.Ytnokgdgikdgaeaa
