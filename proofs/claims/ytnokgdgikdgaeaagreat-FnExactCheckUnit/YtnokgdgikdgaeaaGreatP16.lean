import Derived.Test.YtnokgdgikdgaeaaGreatP15
import Derived.Test.YtnokgdgikdgaeaaGreatP01
namespace Go.Proofs.YtnokgdgikdgaeaaGreat
open Go.RowKit

set_option maxHeartbeats 400000 in
theorem l3stat_any (k : Int) (w : World) : Calls Tryz.prog 50 #[.int .i64 k] w fun e w' => e = .returned (.bool (statB k)) ∧ w' = w := by
  go_enter Tryz.func50, Tryz.ntmps50
  go_wp2
  all_goals go_ret
  all_goals exact ⟨by simp [statB, *]; try omega, rfl⟩

set_option maxHeartbeats 400000 in
theorem l3expr_any (k : Int) (w : World) : Calls Tryz.prog 83 #[.int .i64 k] w fun e w' => e = .returned (.bool (exprB k)) ∧ w' = w := by
  go_enter Tryz.func83, Tryz.ntmps83
  go_wp2
  all_goals go_ret
  all_goals exact ⟨by simp [exprB, *]; try omega, rfl⟩

set_option maxHeartbeats 400000 in
theorem l3target_any (k : Int) (w : World) : Calls Tryz.prog 74 #[.int .i64 k] w fun e w' => e = .returned (.bool (targetB k)) ∧ w' = w := by
  go_enter Tryz.func74, Tryz.ntmps74
  go_wp2
  all_goals go_ret
  all_goals exact ⟨by simp [targetB, *], rfl⟩

set_option maxHeartbeats 400000 in
theorem l3many_any (k : Int) (w : World) : Calls Tryz.prog 75 #[.int .i64 k] w fun e w' => e = .returned (.bool (manyB k)) ∧ w' = w := by
  go_enter Tryz.func75, Tryz.ntmps75
  go_wp2
  all_goals go_ret
  all_goals exact ⟨by simp [manyB, *], rfl⟩

set_option maxHeartbeats 400000 in
theorem l3kid_any (a : Option Addr) (n c : Nat) (nm : Nat → NM) (at_ : Nat) (i : Int) (w : World) (hat : at_ < n) (hn : n ≤ 1048576) (hi : 0 ≤ i) (ha : NodesAt w a n nm) :
    Calls Tryz.prog 71 #[.slice a n c, .int .i64 at_, .int .i64 i] w fun e w' => e = .returned (.int .i64 (kidK (ndOf nm) at_ i.toNat)) ∧ w' = w := by
  obtain ⟨i, rfl⟩ := Int.eq_ofNat_of_zero_le hi
  rw [Int.toNat_natCast]
  obtain ⟨b, off, rfl, hc⟩ := ha.1 (by omega)
  have c7 := (hc at_ hat).c7
  by_cases h1 : (nm at_).nk ≤ i
  · have : Hid (kidK (ndOf nm) at_ i = 0) := by show _ = _; unfold kidK ndOf; simp [h1]
    clear hc
    go_enter Tryz.func71, Tryz.ntmps71
    go_wp2
    go_ret
    exact ⟨ret_int this.out.symm, rfl⟩
  · obtain ⟨kb, ko, hka, hk⟩ := (ha.2 at_ hat).2 (by omega)
    have hki := hk i (by omega)
    by_cases h2 : (nm at_).kd i < 0
    · have : Hid (kidK (ndOf nm) at_ i = 0) := by show _ = _; unfold kidK ndOf; simp [h1, h2]
      clear hc hk
      go_enter Tryz.func71, Tryz.ntmps71
      go_wp2
      go_ret
      exact ⟨ret_int this.out.symm, rfl⟩
    · by_cases h3 : (at_ : Int) ≤ (nm at_).kd i
      · have : Hid (kidK (ndOf nm) at_ i = 0) := by show _ = _; unfold kidK ndOf; simp [h1, h3]
        clear hc hk
        go_enter Tryz.func71, Tryz.ntmps71
        go_wp2
        go_ret
        exact ⟨ret_int this.out.symm, rfl⟩
      · obtain ⟨q, hq⟩ := Int.eq_ofNat_of_zero_le (show 0 ≤ (nm at_).kd i by omega)
        have : Hid (kidK (ndOf nm) at_ i = (nm q).kind) := by show _ = _; unfold kidK ndOf; rw [if_neg h1, if_neg (by rintro (h | h) <;> omega), hq]; rfl
        rw [hq] at hki h2 h3
        have c0 := (hc q (by omega)).c0
        clear hc hk hq
        go_enter Tryz.func71, Tryz.ntmps71
        go_wp2
        go_ret
        exact ⟨ret_int this.out.symm, rfl⟩

set_option maxHeartbeats 400000 in
theorem l3exprs_any (a : Option Addr) (n c : Nat) (nm : Nat → NM) (at_ : Nat) (f t : Int) (w : World) (hat : at_ < n) (hn : n ≤ 1048576) (hf : 0 ≤ f) (ht : 0 ≤ t) (ht2 : t ≤ 1048576) (ha : NodesAt w a n nm) :
    Calls Tryz.prog 73 #[.slice a n c, .int .i64 at_, .int .i64 f, .int .i64 t] w fun e w' => e = .returned (.bool (exprsB (ndOf nm) at_ f.toNat t.toNat)) ∧ w' = w := by
  obtain ⟨f, rfl⟩ := Int.eq_ofNat_of_zero_le hf
  obtain ⟨t, rfl⟩ := Int.eq_ofNat_of_zero_le ht
  simp only [Int.toNat_natCast]
  go_enter Tryz.func73, Tryz.ntmps73
  go_wp2
  go_loop [9] (fun i => ∃ k : Nat, f ≤ k ∧ (k ≤ t ∨ k = f) ∧ i = .int .i64 k ∧ exprsB (ndOf nm) at_ f t = allB (fun i => exprB (kidK (ndOf nm) at_ i)) k (t - k)) (fun i => t - (intOf i).toNat)
  case atStart => exact ⟨f, Nat.le_refl _, .inr rfl, rfl, rfl⟩
  case round =>
    obtain ⟨k, hk, hk2, rfl, hr⟩ := hrel
    have HR : Hid _ := hr
    clear hr
    by_cases hlt : k < t
    · go_wp2_with fail
      refine (l3kid_any _ _ _ nm _ _ _ hat hn (by omega) ha).mono ?_
      rintro e w1 ⟨rfl, rfl⟩
      rw [Int.toNat_natCast]
      go_wp2_with fail
      refine (l3expr_any _ _).mono ?_
      rintro e w1 ⟨rfl, rfl⟩
      have hs : Hid (allB (fun i => exprB (kidK (ndOf nm) at_ i)) k (t - k) = (exprB (kidK (ndOf nm) at_ k) && allB (fun i => exprB (kidK (ndOf nm) at_ i)) (k + 1) (t - (k + 1)))) := by
        rw [show t - k = (t - (k + 1)) + 1 from by omega]; rfl
      cases hx : exprB (kidK (ndOf nm) at_ k)
      · go_wp2_with fail
        go_ret
        exact ⟨ret_bool (by rw [HR.out, hs.out, hx]; rfl), rfl⟩
      · go_wp2_with fail
        go_round
        case rel => exact ⟨k + 1, by omega, by omega, by go_num, by rw [HR.out, hs.out, hx]; rfl⟩
        case measure => simp [intOf]; omega
    · have hs : Hid (allB (fun i => exprB (kidK (ndOf nm) at_ i)) k (t - k) = true) := by
        rw [show t - k = 0 from by omega]; rfl
      go_wp2
      go_ret
      exact ⟨ret_bool (by rw [HR.out, hs.out]), rfl⟩

set_option maxHeartbeats 1000000 in
theorem l3bare_any (m : NM) (op num flt str : Bool) (refs : Int) (w : World) (hfl : op.toNat + num.toNat + flt.toNat + str.toNat ≤ 1) :
    Calls Tryz.prog 72 #[.agg #[.int .i64 m.kind, .int .i64 m.line, .int .i64 m.op, .int .i64 m.num, .float .f64 m.flt, .string m.str, .slice m.ra m.nr m.rc, .slice m.ka m.nk m.kc], .bool op, .bool num, .bool flt, .bool str, .int .i64 refs] w fun e w' => e = .returned (.bool (bareB m.toND op num flt str refs)) ∧ w' = w.alloc (.cells #[.int .i64 m.kind, .int .i64 m.line, .int .i64 m.op, .int .i64 m.num, .float .f64 m.flt, .string m.str, .slice m.ra m.nr m.rc, .slice m.ka m.nk m.kc] 71) := by
  cases op <;> cases num <;> cases flt <;> cases str <;> first | (exfalso; revert hfl; decide) | skip
  all_goals
    clear hfl
    go_enter Tryz.func72, Tryz.ntmps72
    go_wp2
    all_goals go_ret
    all_goals exact ⟨ret_bool (by simp_all [bareB, fzero]), by first | rfl | simp [*]⟩
end Go.Proofs.YtnokgdgikdgaeaaGreat

namespace Go.Proofs.YtnokgdgikdgaeaaGreat
open Go.RowKit
attribute [local go_sem] run_store_float

set_option maxRecDepth 100000 in
set_option maxHeartbeats 2000000 in
theorem l3statement_6 (a : Option Addr) (n c : Nat) (nm : Nat → NM) (at_ : Nat) (w : World) (hat : at_ < n) (hn : n ≤ 1048576) (hk : (nm at_).nk ≤ 1048576) (hkd : (nm at_).kind = 6) (ha : NodesAt w a n nm) :
    Calls Tryz.prog 51 #[.slice a n c, .int .i64 at_] w fun e w' => e = .returned (.bool (stmtB (ndOf nm) at_)) ∧ Onw w w' := by
  obtain ⟨b, off, rfl, hc⟩ := ha.1 (by omega)
  obtain ⟨c0, c1, c2, c3, c4, c5, c6, c7⟩ := hc at_ hat
  clear hc
  have e1 : ((nm at_).kind == 1) = false := by simp [hkd]
  have e2 : ((nm at_).kind == 2) = false := by simp [hkd]
  have e3 : ((nm at_).kind == 3) = false := by simp [hkd]
  have e4 : ((nm at_).kind == 4) = false := by simp [hkd]
  have e14 : ((nm at_).kind == 14) = false := by simp [hkd]
  have e5 : ((nm at_).kind == 5) = false := by simp [hkd]
  have e6 : ((nm at_).kind == 6) = true := by simp [hkd]
  have fin : Hid (stmtB (ndOf nm) at_ = (((nm at_).nk : Int) == 2 && exprsB (ndOf nm) at_ 0 1 && blockB (ndOf nm) at_ && bareB (nm at_).toND false false false false 0)) := by
    show _ = _
    simp only [stmtB, ndOf, hkd]; rfl
  have HK : Hid _ := hkd
  clear hkd
  go_enter Tryz.func51, Tryz.ntmps51
  go_wp2_with (first
    | (go_at_call 71; refine (l3kid_any _ _ _ nm _ _ _ hat hn (by omega) (by exact ha.onw (Onw.alloc _ _))).mono ?_; rintro e w1 ⟨rfl, rfl⟩)
    | (go_at_call 73; refine (l3exprs_any _ _ _ nm _ _ _ _ hat hn (by omega) (by omega) (by omega) (by first | exact ha.onw (Onw.alloc _ _) | exact ha.onw ((Onw.alloc _ _).trans (Onw.alloc _ _)))).mono ?_; rintro e w1 ⟨rfl, rfl⟩)
    | (go_at_call 72; refine (l3bare_any (nm at_) _ _ _ _ _ _ (by decide)).mono ?_; rintro e w1 ⟨rfl, rfl⟩))
  all_goals go_ret
  all_goals exact ⟨ret_bool (by rw [fin.out]; simp_all [blockB, ndOf] <;> omega), by first | exact Onw.alloc _ _ | exact (Onw.alloc _ _).trans (Onw.alloc _ _)⟩

set_option maxRecDepth 100000 in
set_option maxHeartbeats 2000000 in
theorem l3statement_7 (a : Option Addr) (n c : Nat) (nm : Nat → NM) (at_ : Nat) (w : World) (hat : at_ < n) (hn : n ≤ 1048576) (hk : (nm at_).nk ≤ 1048576) (hkd : (nm at_).kind = 7) (ha : NodesAt w a n nm) :
    Calls Tryz.prog 51 #[.slice a n c, .int .i64 at_] w fun e w' => e = .returned (.bool (stmtB (ndOf nm) at_)) ∧ Onw w w' := by
  obtain ⟨b, off, rfl, hc⟩ := ha.1 (by omega)
  obtain ⟨c0, c1, c2, c3, c4, c5, c6, c7⟩ := hc at_ hat
  clear hc
  have e1 : ((nm at_).kind == 1) = false := by simp [hkd]
  have e2 : ((nm at_).kind == 2) = false := by simp [hkd]
  have e3 : ((nm at_).kind == 3) = false := by simp [hkd]
  have e4 : ((nm at_).kind == 4) = false := by simp [hkd]
  have e14 : ((nm at_).kind == 14) = false := by simp [hkd]
  have e5 : ((nm at_).kind == 5) = false := by simp [hkd]
  have e6 : ((nm at_).kind == 6) = false := by simp [hkd]
  have e7 : ((nm at_).kind == 7) = true := by simp [hkd]
  have fin : Hid (stmtB (ndOf nm) at_ = (((nm at_).nk : Int) == 4 && exprsB (ndOf nm) at_ 0 3 && blockB (ndOf nm) at_ && bareB (nm at_).toND false false false false 1)) := by
    show _ = _
    simp only [stmtB, ndOf, hkd]; rfl
  have HK : Hid _ := hkd
  clear hkd
  go_enter Tryz.func51, Tryz.ntmps51
  go_wp2_with (first
    | (go_at_call 71; refine (l3kid_any _ _ _ nm _ _ _ hat hn (by omega) (by exact ha.onw (Onw.alloc _ _))).mono ?_; rintro e w1 ⟨rfl, rfl⟩)
    | (go_at_call 73; refine (l3exprs_any _ _ _ nm _ _ _ _ hat hn (by omega) (by omega) (by omega) (by first | exact ha.onw (Onw.alloc _ _) | exact ha.onw ((Onw.alloc _ _).trans (Onw.alloc _ _)))).mono ?_; rintro e w1 ⟨rfl, rfl⟩)
    | (go_at_call 72; refine (l3bare_any (nm at_) _ _ _ _ _ _ (by decide)).mono ?_; rintro e w1 ⟨rfl, rfl⟩))
  all_goals go_ret
  all_goals exact ⟨ret_bool (by rw [fin.out]; simp_all [blockB, ndOf] <;> omega), by first | exact Onw.alloc _ _ | exact (Onw.alloc _ _).trans (Onw.alloc _ _)⟩

set_option maxRecDepth 100000 in
set_option maxHeartbeats 2000000 in
theorem l3statement_8 (a : Option Addr) (n c : Nat) (nm : Nat → NM) (at_ : Nat) (w : World) (hat : at_ < n) (hn : n ≤ 1048576) (hk : (nm at_).nk ≤ 1048576) (hkd : (nm at_).kind = 8) (ha : NodesAt w a n nm) :
    Calls Tryz.prog 51 #[.slice a n c, .int .i64 at_] w fun e w' => e = .returned (.bool (stmtB (ndOf nm) at_)) ∧ Onw w w' := by
  obtain ⟨b, off, rfl, hc⟩ := ha.1 (by omega)
  obtain ⟨c0, c1, c2, c3, c4, c5, c6, c7⟩ := hc at_ hat
  clear hc
  have e1 : ((nm at_).kind == 1) = false := by simp [hkd]
  have e2 : ((nm at_).kind == 2) = false := by simp [hkd]
  have e3 : ((nm at_).kind == 3) = false := by simp [hkd]
  have e4 : ((nm at_).kind == 4) = false := by simp [hkd]
  have e14 : ((nm at_).kind == 14) = false := by simp [hkd]
  have e5 : ((nm at_).kind == 5) = false := by simp [hkd]
  have e6 : ((nm at_).kind == 6) = false := by simp [hkd]
  have e7 : ((nm at_).kind == 7) = false := by simp [hkd]
  have e8 : ((nm at_).kind == 8) = true := by simp [hkd]
  have fin : Hid (stmtB (ndOf nm) at_ = (((nm at_).nk : Int) == 2 && decide (1 ≤ (nm at_).nr) && decide ((nm at_).nr ≤ 4) && exprsB (ndOf nm) at_ 0 1 && blockB (ndOf nm) at_ && bareB (nm at_).toND false false false false (nm at_).nr)) := by
    show _ = _
    simp only [stmtB, ndOf, hkd]; rfl
  have HK : Hid _ := hkd
  clear hkd
  go_enter Tryz.func51, Tryz.ntmps51
  go_wp2_with (first
    | (go_at_call 71; refine (l3kid_any _ _ _ nm _ _ _ hat hn (by omega) (by exact ha.onw (Onw.alloc _ _))).mono ?_; rintro e w1 ⟨rfl, rfl⟩)
    | (go_at_call 73; refine (l3exprs_any _ _ _ nm _ _ _ _ hat hn (by omega) (by omega) (by omega) (by first | exact ha.onw (Onw.alloc _ _) | exact ha.onw ((Onw.alloc _ _).trans (Onw.alloc _ _)))).mono ?_; rintro e w1 ⟨rfl, rfl⟩)
    | (go_at_call 72; refine (l3bare_any (nm at_) _ _ _ _ _ _ (by decide)).mono ?_; rintro e w1 ⟨rfl, rfl⟩))
  all_goals go_ret
  all_goals exact ⟨ret_bool (by rw [fin.out]; simp_all [blockB, ndOf] <;> omega), by first | exact Onw.alloc _ _ | exact (Onw.alloc _ _).trans (Onw.alloc _ _)⟩
end Go.Proofs.YtnokgdgikdgaeaaGreat

namespace Go.Proofs.YtnokgdgikdgaeaaGreat
open Go.RowKit
attribute [local go_sem] run_store_float

set_option maxRecDepth 100000 in
set_option maxHeartbeats 2000000 in
theorem l3statement_4 (a : Option Addr) (n c : Nat) (nm : Nat → NM) (at_ : Nat) (w : World) (hat : at_ < n) (hn : n ≤ 1048576) (hk : (nm at_).nk ≤ 1048576) (hkd : (nm at_).kind = 4) (ha : NodesAt w a n nm) :
    Calls Tryz.prog 51 #[.slice a n c, .int .i64 at_] w fun e w' => e = .returned (.bool (stmtB (ndOf nm) at_)) ∧ Onw w w' := by
  obtain ⟨b, off, rfl, hc⟩ := ha.1 (by omega)
  obtain ⟨c0, c1, c2, c3, c4, c5, c6, c7⟩ := hc at_ hat
  clear hc
  have e1 : ((nm at_).kind == 1) = false := by simp [hkd]
  have e2 : ((nm at_).kind == 2) = false := by simp [hkd]
  have e3 : ((nm at_).kind == 3) = false := by simp [hkd]
  have e4 : ((nm at_).kind == 4) = true := by simp [hkd]
  have fin : Hid (stmtB (ndOf nm) at_ = (((nm at_).nk : Int) == 1 && kidK (ndOf nm) at_ 0 == 34 && bareB (nm at_).toND false false false false 0)) := by
    show _ = _
    simp only [stmtB, ndOf, hkd]; rfl
  have HK : Hid _ := hkd
  clear hkd
  go_enter Tryz.func51, Tryz.ntmps51
  go_wp2_with (first
    | (go_at_call 71; refine (l3kid_any _ _ _ nm _ _ _ hat hn (by omega) (by exact ha.onw (Onw.alloc _ _))).mono ?_; rintro e w1 ⟨rfl, rfl⟩)
    | (go_at_call 73; refine (l3exprs_any _ _ _ nm _ _ _ _ hat hn (by omega) (by omega) (by omega) (by first | exact ha.onw (Onw.alloc _ _) | exact ha.onw ((Onw.alloc _ _).trans (Onw.alloc _ _)))).mono ?_; rintro e w1 ⟨rfl, rfl⟩)
    | (go_at_call 72; refine (l3bare_any (nm at_) _ _ _ _ _ _ (by decide)).mono ?_; rintro e w1 ⟨rfl, rfl⟩))
  all_goals go_ret
  all_goals exact ⟨ret_bool (by rw [fin.out]; simp_all <;> omega), by first | exact Onw.alloc _ _ | exact (Onw.alloc _ _).trans (Onw.alloc _ _)⟩

set_option maxRecDepth 100000 in
set_option maxHeartbeats 2000000 in
theorem l3statement_14 (a : Option Addr) (n c : Nat) (nm : Nat → NM) (at_ : Nat) (w : World) (hat : at_ < n) (hn : n ≤ 1048576) (hk : (nm at_).nk ≤ 1048576) (hkd : (nm at_).kind = 14) (ha : NodesAt w a n nm) :
    Calls Tryz.prog 51 #[.slice a n c, .int .i64 at_] w fun e w' => e = .returned (.bool (stmtB (ndOf nm) at_)) ∧ Onw w w' := by
  obtain ⟨b, off, rfl, hc⟩ := ha.1 (by omega)
  obtain ⟨c0, c1, c2, c3, c4, c5, c6, c7⟩ := hc at_ hat
  clear hc
  have e1 : ((nm at_).kind == 1) = false := by simp [hkd]
  have e2 : ((nm at_).kind == 2) = false := by simp [hkd]
  have e3 : ((nm at_).kind == 3) = false := by simp [hkd]
  have e4 : ((nm at_).kind == 4) = false := by simp [hkd]
  have e14 : ((nm at_).kind == 14) = true := by simp [hkd]
  have fin : Hid (stmtB (ndOf nm) at_ = (((nm at_).nk : Int) == 1 && kidK (ndOf nm) at_ 0 == 34 && bareB (nm at_).toND false false false false 0)) := by
    show _ = _
    simp only [stmtB, ndOf, hkd]; rfl
  have HK : Hid _ := hkd
  clear hkd
  go_enter Tryz.func51, Tryz.ntmps51
  go_wp2_with (first
    | (go_at_call 71; refine (l3kid_any _ _ _ nm _ _ _ hat hn (by omega) (by exact ha.onw (Onw.alloc _ _))).mono ?_; rintro e w1 ⟨rfl, rfl⟩)
    | (go_at_call 73; refine (l3exprs_any _ _ _ nm _ _ _ _ hat hn (by omega) (by omega) (by omega) (by first | exact ha.onw (Onw.alloc _ _) | exact ha.onw ((Onw.alloc _ _).trans (Onw.alloc _ _)))).mono ?_; rintro e w1 ⟨rfl, rfl⟩)
    | (go_at_call 72; refine (l3bare_any (nm at_) _ _ _ _ _ _ (by decide)).mono ?_; rintro e w1 ⟨rfl, rfl⟩))
  all_goals go_ret
  all_goals exact ⟨ret_bool (by rw [fin.out]; simp_all <;> omega), by first | exact Onw.alloc _ _ | exact (Onw.alloc _ _).trans (Onw.alloc _ _)⟩

set_option maxRecDepth 100000 in
set_option maxHeartbeats 2000000 in
theorem l3statement_5 (a : Option Addr) (n c : Nat) (nm : Nat → NM) (at_ : Nat) (w : World) (hat : at_ < n) (hn : n ≤ 1048576) (hk : (nm at_).nk ≤ 1048576) (hkd : (nm at_).kind = 5) (ha : NodesAt w a n nm) :
    Calls Tryz.prog 51 #[.slice a n c, .int .i64 at_] w fun e w' => e = .returned (.bool (stmtB (ndOf nm) at_)) ∧ Onw w w' := by
  obtain ⟨b, off, rfl, hc⟩ := ha.1 (by omega)
  obtain ⟨c0, c1, c2, c3, c4, c5, c6, c7⟩ := hc at_ hat
  clear hc
  have e1 : ((nm at_).kind == 1) = false := by simp [hkd]
  have e2 : ((nm at_).kind == 2) = false := by simp [hkd]
  have e3 : ((nm at_).kind == 3) = false := by simp [hkd]
  have e4 : ((nm at_).kind == 4) = false := by simp [hkd]
  have e14 : ((nm at_).kind == 14) = false := by simp [hkd]
  have e5 : ((nm at_).kind == 5) = true := by simp [hkd]
  have fin : Hid (stmtB (ndOf nm) at_ = ((((nm at_).nk : Int) == 2 || ((nm at_).nk : Int) == 3 && (kidK (ndOf nm) at_ 2 == 1 || kidK (ndOf nm) at_ 2 == 5)) && exprsB (ndOf nm) at_ 0 1 && kidK (ndOf nm) at_ 1 == 1 && bareB (nm at_).toND false false false false 0)) := by
    show _ = _
    simp only [stmtB, ndOf, hkd]; rfl
  have HK : Hid _ := hkd
  clear hkd
  go_enter Tryz.func51, Tryz.ntmps51
  go_wp2_with (first
    | (go_at_call 71; refine (l3kid_any _ _ _ nm _ _ _ hat hn (by omega) (by exact ha.onw (Onw.alloc _ _))).mono ?_; rintro e w1 ⟨rfl, rfl⟩)
    | (go_at_call 73; refine (l3exprs_any _ _ _ nm _ _ _ _ hat hn (by omega) (by omega) (by omega) (by first | exact ha.onw (Onw.alloc _ _) | exact ha.onw ((Onw.alloc _ _).trans (Onw.alloc _ _)))).mono ?_; rintro e w1 ⟨rfl, rfl⟩)
    | (go_at_call 72; refine (l3bare_any (nm at_) _ _ _ _ _ _ (by decide)).mono ?_; rintro e w1 ⟨rfl, rfl⟩))
  all_goals go_ret
  all_goals exact ⟨ret_bool (by rw [fin.out]; simp_all <;> omega), by first | exact Onw.alloc _ _ | exact (Onw.alloc _ _).trans (Onw.alloc _ _)⟩
end Go.Proofs.YtnokgdgikdgaeaaGreat

namespace Go.Proofs.YtnokgdgikdgaeaaGreat
open Go.RowKit
attribute [local go_sem] run_store_float

set_option maxRecDepth 100000 in
set_option maxHeartbeats 2000000 in
theorem l3statement_9 (a : Option Addr) (n c : Nat) (nm : Nat → NM) (at_ : Nat) (w : World) (hat : at_ < n) (hn : n ≤ 1048576) (hk : (nm at_).nk ≤ 1048576) (hkd : (nm at_).kind = 9) (ha : NodesAt w a n nm) :
    Calls Tryz.prog 51 #[.slice a n c, .int .i64 at_] w fun e w' => e = .returned (.bool (stmtB (ndOf nm) at_)) ∧ Onw w w' := by
  obtain ⟨b, off, rfl, hc⟩ := ha.1 (by omega)
  obtain ⟨c0, c1, c2, c3, c4, c5, c6, c7⟩ := hc at_ hat
  clear hc
  have e1 : ((nm at_).kind == 1) = false := by simp [hkd]
  have e2 : ((nm at_).kind == 2) = false := by simp [hkd]
  have e3 : ((nm at_).kind == 3) = false := by simp [hkd]
  have e4 : ((nm at_).kind == 4) = false := by simp [hkd]
  have e14 : ((nm at_).kind == 14) = false := by simp [hkd]
  have e5 : ((nm at_).kind == 5) = false := by simp [hkd]
  have e6 : ((nm at_).kind == 6) = false := by simp [hkd]
  have e7 : ((nm at_).kind == 7) = false := by simp [hkd]
  have e8 : ((nm at_).kind == 8) = false := by simp [hkd]
  have e9 : ((nm at_).kind == 9) = true := by simp [hkd]
  have fin : Hid (stmtB (ndOf nm) at_ = (((nm at_).nk : Int) == 0 && bareB (nm at_).toND false false false false 0)) := by
    show _ = _
    simp only [stmtB, ndOf, hkd]; rfl
  have e0 : (((nm at_).nk : Int) == 0) = true ∨ (((nm at_).nk : Int) == 0) = false := by cases (((nm at_).nk : Int) == 0) <;> simp
  have HK : Hid _ := hkd
  clear hkd
  rcases e0 with e0 | e0
  all_goals
    go_enter Tryz.func51, Tryz.ntmps51
    go_wp2_with (first
      | (go_at_call 71; refine (l3kid_any _ _ _ nm _ _ _ hat hn (by omega) (by exact ha.onw (Onw.alloc _ _))).mono ?_; rintro e w1 ⟨rfl, rfl⟩)
      | (go_at_call 73; refine (l3exprs_any _ _ _ nm _ _ _ _ hat hn (by omega) (by omega) (by omega) (by first | exact ha.onw (Onw.alloc _ _) | exact ha.onw ((Onw.alloc _ _).trans (Onw.alloc _ _)))).mono ?_; rintro e w1 ⟨rfl, rfl⟩)
      | (go_at_call 72; refine (l3bare_any (nm at_) _ _ _ _ _ _ (by decide)).mono ?_; rintro e w1 ⟨rfl, rfl⟩))
    all_goals go_ret
    all_goals exact ⟨ret_bool (by rw [fin.out]; simp_all <;> omega), by first | exact Onw.alloc _ _ | exact (Onw.alloc _ _).trans (Onw.alloc _ _)⟩

set_option maxRecDepth 100000 in
set_option maxHeartbeats 2000000 in
theorem l3statement_10 (a : Option Addr) (n c : Nat) (nm : Nat → NM) (at_ : Nat) (w : World) (hat : at_ < n) (hn : n ≤ 1048576) (hk : (nm at_).nk ≤ 1048576) (hkd : (nm at_).kind = 10) (ha : NodesAt w a n nm) :
    Calls Tryz.prog 51 #[.slice a n c, .int .i64 at_] w fun e w' => e = .returned (.bool (stmtB (ndOf nm) at_)) ∧ Onw w w' := by
  obtain ⟨b, off, rfl, hc⟩ := ha.1 (by omega)
  obtain ⟨c0, c1, c2, c3, c4, c5, c6, c7⟩ := hc at_ hat
  clear hc
  have e1 : ((nm at_).kind == 1) = false := by simp [hkd]
  have e2 : ((nm at_).kind == 2) = false := by simp [hkd]
  have e3 : ((nm at_).kind == 3) = false := by simp [hkd]
  have e4 : ((nm at_).kind == 4) = false := by simp [hkd]
  have e14 : ((nm at_).kind == 14) = false := by simp [hkd]
  have e5 : ((nm at_).kind == 5) = false := by simp [hkd]
  have e6 : ((nm at_).kind == 6) = false := by simp [hkd]
  have e7 : ((nm at_).kind == 7) = false := by simp [hkd]
  have e8 : ((nm at_).kind == 8) = false := by simp [hkd]
  have e9 : ((nm at_).kind == 9) = false := by simp [hkd]
  have e10 : ((nm at_).kind == 10) = true := by simp [hkd]
  have fin : Hid (stmtB (ndOf nm) at_ = (((nm at_).nk : Int) == 0 && bareB (nm at_).toND false false false false 0)) := by
    show _ = _
    simp only [stmtB, ndOf, hkd]; rfl
  have e0 : (((nm at_).nk : Int) == 0) = true ∨ (((nm at_).nk : Int) == 0) = false := by cases (((nm at_).nk : Int) == 0) <;> simp
  have HK : Hid _ := hkd
  clear hkd
  rcases e0 with e0 | e0
  all_goals
    go_enter Tryz.func51, Tryz.ntmps51
    go_wp2_with (first
      | (go_at_call 71; refine (l3kid_any _ _ _ nm _ _ _ hat hn (by omega) (by exact ha.onw (Onw.alloc _ _))).mono ?_; rintro e w1 ⟨rfl, rfl⟩)
      | (go_at_call 73; refine (l3exprs_any _ _ _ nm _ _ _ _ hat hn (by omega) (by omega) (by omega) (by first | exact ha.onw (Onw.alloc _ _) | exact ha.onw ((Onw.alloc _ _).trans (Onw.alloc _ _)))).mono ?_; rintro e w1 ⟨rfl, rfl⟩)
      | (go_at_call 72; refine (l3bare_any (nm at_) _ _ _ _ _ _ (by decide)).mono ?_; rintro e w1 ⟨rfl, rfl⟩))
    all_goals go_ret
    all_goals exact ⟨ret_bool (by rw [fin.out]; simp_all <;> omega), by first | exact Onw.alloc _ _ | exact (Onw.alloc _ _).trans (Onw.alloc _ _)⟩

set_option maxRecDepth 100000 in
set_option maxHeartbeats 2000000 in
theorem l3statement_11 (a : Option Addr) (n c : Nat) (nm : Nat → NM) (at_ : Nat) (w : World) (hat : at_ < n) (hn : n ≤ 1048576) (hk : (nm at_).nk ≤ 1048576) (hkd : (nm at_).kind = 11) (ha : NodesAt w a n nm) :
    Calls Tryz.prog 51 #[.slice a n c, .int .i64 at_] w fun e w' => e = .returned (.bool (stmtB (ndOf nm) at_)) ∧ Onw w w' := by
  obtain ⟨b, off, rfl, hc⟩ := ha.1 (by omega)
  obtain ⟨c0, c1, c2, c3, c4, c5, c6, c7⟩ := hc at_ hat
  clear hc
  have e1 : ((nm at_).kind == 1) = false := by simp [hkd]
  have e2 : ((nm at_).kind == 2) = false := by simp [hkd]
  have e3 : ((nm at_).kind == 3) = false := by simp [hkd]
  have e4 : ((nm at_).kind == 4) = false := by simp [hkd]
  have e14 : ((nm at_).kind == 14) = false := by simp [hkd]
  have e5 : ((nm at_).kind == 5) = false := by simp [hkd]
  have e6 : ((nm at_).kind == 6) = false := by simp [hkd]
  have e7 : ((nm at_).kind == 7) = false := by simp [hkd]
  have e8 : ((nm at_).kind == 8) = false := by simp [hkd]
  have e9 : ((nm at_).kind == 9) = false := by simp [hkd]
  have e10 : ((nm at_).kind == 10) = false := by simp [hkd]
  have e11 : ((nm at_).kind == 11) = true := by simp [hkd]
  have fin : Hid (stmtB (ndOf nm) at_ = (exprsB (ndOf nm) at_ 0 (nm at_).nk && bareB (nm at_).toND false false false false 0)) := by
    show _ = _
    simp only [stmtB, ndOf, hkd]; rfl
  have HK : Hid _ := hkd
  clear hkd
  go_enter Tryz.func51, Tryz.ntmps51
  go_wp2_with (first
    | (go_at_call 71; refine (l3kid_any _ _ _ nm _ _ _ hat hn (by omega) (by exact ha.onw (Onw.alloc _ _))).mono ?_; rintro e w1 ⟨rfl, rfl⟩)
    | (go_at_call 73; refine (l3exprs_any _ _ _ nm _ _ _ _ hat hn (by omega) (by omega) (by omega) (by first | exact ha.onw (Onw.alloc _ _) | exact ha.onw ((Onw.alloc _ _).trans (Onw.alloc _ _)))).mono ?_; rintro e w1 ⟨rfl, rfl⟩)
    | (go_at_call 72; refine (l3bare_any (nm at_) _ _ _ _ _ _ (by decide)).mono ?_; rintro e w1 ⟨rfl, rfl⟩))
  all_goals go_ret
  all_goals exact ⟨ret_bool (by rw [fin.out]; simp_all <;> omega), by first | exact Onw.alloc _ _ | exact (Onw.alloc _ _).trans (Onw.alloc _ _)⟩
end Go.Proofs.YtnokgdgikdgaeaaGreat

namespace Go.Proofs.YtnokgdgikdgaeaaGreat
open Go.RowKit
attribute [local go_sem] run_store_float

set_option maxRecDepth 100000 in
set_option maxHeartbeats 2000000 in
theorem l3statement_12 (a : Option Addr) (n c : Nat) (nm : Nat → NM) (at_ : Nat) (w : World) (hat : at_ < n) (hn : n ≤ 1048576) (hk : (nm at_).nk ≤ 1048576) (hkd : (nm at_).kind = 12) (ha : NodesAt w a n nm) :
    Calls Tryz.prog 51 #[.slice a n c, .int .i64 at_] w fun e w' => e = .returned (.bool (stmtB (ndOf nm) at_)) ∧ Onw w w' := by
  obtain ⟨b, off, rfl, hc⟩ := ha.1 (by omega)
  obtain ⟨c0, c1, c2, c3, c4, c5, c6, c7⟩ := hc at_ hat
  clear hc
  have e1 : ((nm at_).kind == 1) = false := by simp [hkd]
  have e2 : ((nm at_).kind == 2) = false := by simp [hkd]
  have e3 : ((nm at_).kind == 3) = false := by simp [hkd]
  have e4 : ((nm at_).kind == 4) = false := by simp [hkd]
  have e14 : ((nm at_).kind == 14) = false := by simp [hkd]
  have e5 : ((nm at_).kind == 5) = false := by simp [hkd]
  have e6 : ((nm at_).kind == 6) = false := by simp [hkd]
  have e7 : ((nm at_).kind == 7) = false := by simp [hkd]
  have e8 : ((nm at_).kind == 8) = false := by simp [hkd]
  have e9 : ((nm at_).kind == 9) = false := by simp [hkd]
  have e10 : ((nm at_).kind == 10) = false := by simp [hkd]
  have e11 : ((nm at_).kind == 11) = false := by simp [hkd]
  have e12 : ((nm at_).kind == 12) = true := by simp [hkd]
  have fin : Hid (stmtB (ndOf nm) at_ = (((nm at_).nk : Int) == 2 && kidK (ndOf nm) at_ 0 == 1 && blockB (ndOf nm) at_ && bareB (nm at_).toND false false false false 2)) := by
    show _ = _
    simp only [stmtB, ndOf, hkd]; rfl
  have HK : Hid _ := hkd
  clear hkd
  go_enter Tryz.func51, Tryz.ntmps51
  go_wp2_with (first
    | (go_at_call 71; refine (l3kid_any _ _ _ nm _ _ _ hat hn (by omega) (by exact ha.onw (Onw.alloc _ _))).mono ?_; rintro e w1 ⟨rfl, rfl⟩)
    | (go_at_call 73; refine (l3exprs_any _ _ _ nm _ _ _ _ hat hn (by omega) (by omega) (by omega) (by first | exact ha.onw (Onw.alloc _ _) | exact ha.onw ((Onw.alloc _ _).trans (Onw.alloc _ _)))).mono ?_; rintro e w1 ⟨rfl, rfl⟩)
    | (go_at_call 72; refine (l3bare_any (nm at_) _ _ _ _ _ _ (by decide)).mono ?_; rintro e w1 ⟨rfl, rfl⟩))
  all_goals go_ret
  all_goals exact ⟨ret_bool (by rw [fin.out]; simp_all [blockB, ndOf] <;> omega), by first | exact Onw.alloc _ _ | exact (Onw.alloc _ _).trans (Onw.alloc _ _)⟩

set_option maxRecDepth 100000 in
set_option maxHeartbeats 2000000 in
theorem l3statement_13 (a : Option Addr) (n c : Nat) (nm : Nat → NM) (at_ : Nat) (w : World) (hat : at_ < n) (hn : n ≤ 1048576) (hk : (nm at_).nk ≤ 1048576) (hkd : (nm at_).kind = 13) (ha : NodesAt w a n nm) :
    Calls Tryz.prog 51 #[.slice a n c, .int .i64 at_] w fun e w' => e = .returned (.bool (stmtB (ndOf nm) at_)) ∧ Onw w w' := by
  obtain ⟨b, off, rfl, hc⟩ := ha.1 (by omega)
  obtain ⟨c0, c1, c2, c3, c4, c5, c6, c7⟩ := hc at_ hat
  clear hc
  have e1 : ((nm at_).kind == 1) = false := by simp [hkd]
  have e2 : ((nm at_).kind == 2) = false := by simp [hkd]
  have e3 : ((nm at_).kind == 3) = false := by simp [hkd]
  have e4 : ((nm at_).kind == 4) = false := by simp [hkd]
  have e14 : ((nm at_).kind == 14) = false := by simp [hkd]
  have e5 : ((nm at_).kind == 5) = false := by simp [hkd]
  have e6 : ((nm at_).kind == 6) = false := by simp [hkd]
  have e7 : ((nm at_).kind == 7) = false := by simp [hkd]
  have e8 : ((nm at_).kind == 8) = false := by simp [hkd]
  have e9 : ((nm at_).kind == 9) = false := by simp [hkd]
  have e10 : ((nm at_).kind == 10) = false := by simp [hkd]
  have e11 : ((nm at_).kind == 11) = false := by simp [hkd]
  have e12 : ((nm at_).kind == 12) = false := by simp [hkd]
  have e13 : ((nm at_).kind == 13) = true := by simp [hkd]
  have fin : Hid (stmtB (ndOf nm) at_ = (((nm at_).nk : Int) == 1 && exprsB (ndOf nm) at_ 0 1 && bareB (nm at_).toND false false false false 0)) := by
    show _ = _
    simp only [stmtB, ndOf, hkd]; rfl
  have HK : Hid _ := hkd
  clear hkd
  go_enter Tryz.func51, Tryz.ntmps51
  go_wp2_with (first
    | (go_at_call 71; refine (l3kid_any _ _ _ nm _ _ _ hat hn (by omega) (by exact ha.onw (Onw.alloc _ _))).mono ?_; rintro e w1 ⟨rfl, rfl⟩)
    | (go_at_call 73; refine (l3exprs_any _ _ _ nm _ _ _ _ hat hn (by omega) (by omega) (by omega) (by first | exact ha.onw (Onw.alloc _ _) | exact ha.onw ((Onw.alloc _ _).trans (Onw.alloc _ _)))).mono ?_; rintro e w1 ⟨rfl, rfl⟩)
    | (go_at_call 72; refine (l3bare_any (nm at_) _ _ _ _ _ _ (by decide)).mono ?_; rintro e w1 ⟨rfl, rfl⟩))
  all_goals go_ret
  all_goals exact ⟨ret_bool (by rw [fin.out]; simp_all <;> omega), by first | exact Onw.alloc _ _ | exact (Onw.alloc _ _).trans (Onw.alloc _ _)⟩

set_option maxRecDepth 100000 in
set_option maxHeartbeats 2000000 in
theorem l3statement_2 (a : Option Addr) (n c : Nat) (nm : Nat → NM) (at_ : Nat) (w : World) (hat : at_ < n) (hn : n ≤ 1048576) (hk : (nm at_).nk ≤ 1048576) (hkd : (nm at_).kind = 2) (ha : NodesAt w a n nm) :
    Calls Tryz.prog 51 #[.slice a n c, .int .i64 at_] w fun e w' => e = .returned (.bool (stmtB (ndOf nm) at_)) ∧ Onw w w' := by
  obtain ⟨b, off, rfl, hc⟩ := ha.1 (by omega)
  obtain ⟨c0, c1, c2, c3, c4, c5, c6, c7⟩ := hc at_ hat
  clear hc
  have e1 : ((nm at_).kind == 1) = false := by simp [hkd]
  have e2 : ((nm at_).kind == 2) = true := by simp [hkd]
  have fin : Hid (stmtB (ndOf nm) at_ = (decide (0 < (nm at_).nr) && bareB (nm at_).toND false false false false (nm at_).nr && exprsB (ndOf nm) at_ 0 (nm at_).nk)) := by
    show _ = _
    simp only [stmtB, ndOf, hkd]; rfl
  have HK : Hid _ := hkd
  clear hkd
  go_enter Tryz.func51, Tryz.ntmps51
  go_wp2_with (first
    | (go_at_call 71; refine (l3kid_any _ _ _ nm _ _ _ hat hn (by omega) (by exact ha.onw (Onw.alloc _ _))).mono ?_; rintro e w1 ⟨rfl, rfl⟩)
    | (go_at_call 73; refine (l3exprs_any _ _ _ nm _ _ _ _ hat hn (by omega) (by omega) (by omega) (by first | exact ha.onw (Onw.alloc _ _) | exact ha.onw ((Onw.alloc _ _).trans (Onw.alloc _ _)))).mono ?_; rintro e w1 ⟨rfl, rfl⟩)
    | (go_at_call 72; refine (l3bare_any (nm at_) _ _ _ _ _ _ (by decide)).mono ?_; rintro e w1 ⟨rfl, rfl⟩))
  all_goals go_ret
  all_goals exact ⟨ret_bool (by rw [fin.out]; simp_all <;> omega), by first | exact Onw.alloc _ _ | exact (Onw.alloc _ _).trans (Onw.alloc _ _)⟩
end Go.Proofs.YtnokgdgikdgaeaaGreat

namespace Go.Proofs.YtnokgdgikdgaeaaGreat
open Go.RowKit
attribute [local go_sem] run_store_float

set_option maxRecDepth 100000 in
set_option maxHeartbeats 2000000 in
theorem l3statement_1 (a : Option Addr) (n c : Nat) (nm : Nat → NM) (at_ : Nat) (w : World) (hat : at_ < n) (hn : n ≤ 1048576) (hk : (nm at_).nk ≤ 1048576) (hkd : (nm at_).kind = 1) (ha : NodesAt w a n nm) :
    Calls Tryz.prog 51 #[.slice a n c, .int .i64 at_] w fun e w' => e = .returned (.bool (stmtB (ndOf nm) at_)) ∧ Onw w w' := by
  obtain ⟨b, off, rfl, hc⟩ := ha.1 (by omega)
  obtain ⟨c0, c1, c2, c3, c4, c5, c6, c7⟩ := hc at_ hat
  clear hc
  have e1 : ((nm at_).kind == 1) = true := by simp [hkd]
  have fin : Hid (stmtB (ndOf nm) at_ = (allB (fun i => statB (kidK (ndOf nm) at_ i)) 0 (nm at_).nk && bareB (nm at_).toND false false false false 0)) := by
    show _ = _
    simp only [stmtB, ndOf, hkd]; rfl
  have HK : Hid _ := hkd
  clear hkd
  go_enter Tryz.func51, Tryz.ntmps51
  go_wp2_with (go_at_call 71; refine (l3kid_any _ _ _ nm _ _ _ hat hn (by omega) (by exact ha.onw (Onw.alloc _ _))).mono ?_; rintro e w1 ⟨rfl, rfl⟩)
  all_goals
    go_loop [37] (fun i => ∃ k : Nat, k ≤ (nm at_).nk ∧ i = .int .i64 k ∧ allB (fun i => statB (kidK (ndOf nm) at_ i)) 0 (nm at_).nk = allB (fun i => statB (kidK (ndOf nm) at_ i)) k ((nm at_).nk - k)) (fun i => (nm at_).nk - (intOf i).toNat)
    case atStart => exact ⟨0, Nat.zero_le _, rfl, rfl⟩
    case round =>
      obtain ⟨k, hk1, rfl, hr⟩ := hrel
      have HR : Hid _ := hr
      clear hr
      by_cases hlt : k < (nm at_).nk
      · go_wp2_with fail
        refine (l3kid_any _ _ _ nm _ _ _ hat hn (by omega) (by exact ha.onw (Onw.alloc _ _))).mono ?_
        rintro e w1 ⟨rfl, rfl⟩
        rw [Int.toNat_natCast]
        go_wp2_with fail
        refine (l3stat_any _ _).mono ?_
        rintro e w1 ⟨rfl, rfl⟩
        have hs : Hid (allB (fun i => statB (kidK (ndOf nm) at_ i)) k ((nm at_).nk - k) = (statB (kidK (ndOf nm) at_ k) && allB (fun i => statB (kidK (ndOf nm) at_ i)) (k + 1) ((nm at_).nk - (k + 1)))) := by
          rw [show (nm at_).nk - k = ((nm at_).nk - (k + 1)) + 1 from by omega]; rfl
        cases hx : statB (kidK (ndOf nm) at_ k)
        · go_wp2_with fail
          go_ret
          exact ⟨ret_bool (by rw [fin.out, HR.out, hs.out, hx]; rfl), Onw.alloc _ _⟩
        · go_wp2_with fail
          go_round
          case rel => exact ⟨k + 1, by omega, by go_num, by rw [HR.out, hs.out, hx]; rfl⟩
          case measure => simp [intOf]; omega
      · have hs : Hid (allB (fun i => statB (kidK (ndOf nm) at_ i)) k ((nm at_).nk - k) = true) := by
          rw [show (nm at_).nk - k = 0 from by omega]; rfl
        go_wp2_with fail
        refine (l3bare_any (nm at_) _ _ _ _ _ _ (by decide)).mono ?_
        rintro e w1 ⟨rfl, rfl⟩
        go_wp2_with fail
        go_ret
        exact ⟨ret_bool (by rw [fin.out, HR.out, hs.out]; rfl), (Onw.alloc _ _).trans (Onw.alloc _ _)⟩
end Go.Proofs.YtnokgdgikdgaeaaGreat

namespace Go.Proofs.YtnokgdgikdgaeaaGreat
open Go.RowKit
attribute [local go_sem] run_store_float

set_option maxRecDepth 100000 in
set_option maxHeartbeats 2000000 in
theorem l3statement_3 (a : Option Addr) (n c : Nat) (nm : Nat → NM) (at_ : Nat) (w : World) (hat : at_ < n) (hn : n ≤ 1048576) (hk : (nm at_).nk ≤ 1048576) (hkd : (nm at_).kind = 3) (ha : NodesAt w a n nm) :
    Calls Tryz.prog 51 #[.slice a n c, .int .i64 at_] w fun e w' => e = .returned (.bool (stmtB (ndOf nm) at_)) ∧ Onw w w' := by
  obtain ⟨b, off, rfl, hc⟩ := ha.1 (by omega)
  obtain ⟨c0, c1, c2, c3, c4, c5, c6, c7⟩ := hc at_ hat
  clear hc
  have e1 : ((nm at_).kind == 1) = false := by simp [hkd]
  have e2 : ((nm at_).kind == 2) = false := by simp [hkd]
  have e3 : ((nm at_).kind == 3) = true := by simp [hkd]
  have fin : Hid (stmtB (ndOf nm) at_ = (decide (1 ≤ (nm at_).num) && decide ((nm at_).num < (nm at_).nk) && allB (fun i => targetB (kidK (ndOf nm) at_ i)) 0 (nm at_).num.toNat && bareB (nm at_).toND false true false false 0 && exprsB (ndOf nm) at_ (nm at_).num.toNat (nm at_).nk)) := by
    show _ = _
    simp only [stmtB, ndOf, hkd]; rfl
  have HK : Hid _ := hkd
  clear hkd
  by_cases h1 : (nm at_).num < 1
  · go_enter Tryz.func51, Tryz.ntmps51
    go_wp2_with (go_at_call 71; refine (l3kid_any _ _ _ nm _ _ _ hat hn (by omega) (by exact ha.onw (Onw.alloc _ _))).mono ?_; rintro e w1 ⟨rfl, rfl⟩)
    all_goals go_ret
    all_goals exact ⟨ret_bool (by rw [fin.out, decide_eq_false (by omega)]; rfl), Onw.alloc _ _⟩
  · by_cases h2 : ((nm at_).nk : Int) ≤ (nm at_).num
    · go_enter Tryz.func51, Tryz.ntmps51
      go_wp2_with (go_at_call 71; refine (l3kid_any _ _ _ nm _ _ _ hat hn (by omega) (by exact ha.onw (Onw.alloc _ _))).mono ?_; rintro e w1 ⟨rfl, rfl⟩)
      all_goals go_ret
      all_goals exact ⟨ret_bool (by rw [fin.out, decide_eq_true (by omega), decide_eq_false (p := _ < _) (by omega)]; rfl), Onw.alloc _ _⟩
    · go_enter Tryz.func51, Tryz.ntmps51
      go_wp2_with (go_at_call 71; refine (l3kid_any _ _ _ nm _ _ _ hat hn (by omega) (by exact ha.onw (Onw.alloc _ _))).mono ?_; rintro e w1 ⟨rfl, rfl⟩)
      all_goals
        go_loop [9] (fun i => ∃ k : Nat, k ≤ (nm at_).num.toNat ∧ i = .int .i64 k ∧ allB (fun i => targetB (kidK (ndOf nm) at_ i)) 0 (nm at_).num.toNat = allB (fun i => targetB (kidK (ndOf nm) at_ i)) k ((nm at_).num.toNat - k)) (fun i => (nm at_).num.toNat - (intOf i).toNat)
        case atStart => exact ⟨0, Nat.zero_le _, rfl, rfl⟩
        case round =>
          obtain ⟨k, hk1, rfl, hr⟩ := hrel
          have HR : Hid _ := hr
          clear hr
          by_cases hlt : k < (nm at_).num.toNat
          · go_wp2_with fail
            refine (l3kid_any _ _ _ nm _ _ _ hat hn (by omega) (by exact ha.onw (Onw.alloc _ _))).mono ?_
            rintro e w1 ⟨rfl, rfl⟩
            rw [Int.toNat_natCast]
            go_wp2_with fail
            refine (l3target_any _ _).mono ?_
            rintro e w1 ⟨rfl, rfl⟩
            have hs : Hid (allB (fun i => targetB (kidK (ndOf nm) at_ i)) k ((nm at_).num.toNat - k) = (targetB (kidK (ndOf nm) at_ k) && allB (fun i => targetB (kidK (ndOf nm) at_ i)) (k + 1) ((nm at_).num.toNat - (k + 1)))) := by
              rw [show (nm at_).num.toNat - k = ((nm at_).num.toNat - (k + 1)) + 1 from by omega]; rfl
            cases hx : targetB (kidK (ndOf nm) at_ k)
            · go_wp2_with fail
              go_ret
              exact ⟨ret_bool (by rw [fin.out, HR.out, hs.out, hx, Bool.false_and, Bool.and_false]; rfl), Onw.alloc _ _⟩
            · go_wp2_with fail
              go_round
              case rel => exact ⟨k + 1, by omega, by go_num, by rw [HR.out, hs.out, hx]; rfl⟩
              case measure => simp [intOf]; omega
          · have hs : Hid (allB (fun i => targetB (kidK (ndOf nm) at_ i)) k ((nm at_).num.toNat - k) = true) := by
              rw [show (nm at_).num.toNat - k = 0 from by omega]; rfl
            go_wp2_with fail
            refine (l3bare_any (nm at_) _ _ _ _ _ _ (by decide)).mono ?_
            rintro e w1 ⟨rfl, rfl⟩
            cases hx : bareB (nm at_).toND false true false false 0
            · go_wp2_with fail
              go_ret
              exact ⟨ret_bool (by rw [fin.out, HR.out, hs.out, hx, Bool.and_false]; rfl), (Onw.alloc _ _).trans (Onw.alloc _ _)⟩
            · go_wp2_with fail
              refine (l3exprs_any _ _ _ nm _ _ _ _ hat hn (by omega) (by omega) (by omega) (by exact ha.onw ((Onw.alloc _ _).trans (Onw.alloc _ _)))).mono ?_
              rintro e w1 ⟨rfl, rfl⟩
              go_wp2_with fail
              go_ret
              exact ⟨ret_bool (by rw [fin.out, HR.out, hs.out, hx, decide_eq_true (by omega), decide_eq_true (p := _ < _) (by omega)]; rfl), (Onw.alloc _ _).trans (Onw.alloc _ _)⟩
end Go.Proofs.YtnokgdgikdgaeaaGreat
