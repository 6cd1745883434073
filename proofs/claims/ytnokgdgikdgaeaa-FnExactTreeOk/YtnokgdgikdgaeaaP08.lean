import Derived.Test.YtnokgdgikdgaeaaP06
namespace Go.Proofs.Ytnokgdgikdgaeaa
open Go.RowKit
attribute [local go_sem] run_store_float

set_option maxRecDepth 100000 in
set_option maxHeartbeats 4000000 in
theorem ef_bare (m : PM) (p : Int) (kk : Option Addr) (kn kc : Nat) (q : Nat → Option PX) (w : World) (hn : kn ≤ 1048576) (hk : ValsAt w kk kn (fun j => pv (q j))) (hkc : kn ≤ kc) (hnn : m.nn ≤ 1048576) (hz : ∀ i, i < m.nn → (m.nm i).size ≤ 1048576) (htx : m.text.size ≤ 1048576) (hm : StrsAt w m.na m.nn m.nm) :
    Calls Try.prog 28 #[.iface 100 (.agg #[.int .i64 p, .int .i64 m.kind, .int .i64 m.frm, .int .i64 m.tto, .int .i64 m.line, .int .i64 m.op, .int .i64 m.num, .float .f64 m.flt, .string m.text, .slice m.na m.nn m.nc, .slice m.ka m.nk m.kc, .slice kk kn kc])] w fun e w' => e = .returned (.bool (usesP m.toPD false false false false false && (kidsR [] kn q))) ∧ Onw w w' := by
  have _use := And.intro hkc (And.intro hnn (And.intro hz (And.intro htx (And.intro hm (And.intro hn hk)))))
  clear _use
  have B := Blk.new w 100 #[.int .i64 p, .int .i64 m.kind, .int .i64 m.frm, .int .i64 m.tto, .int .i64 m.line, .int .i64 m.op, .int .i64 m.num, .float .f64 m.flt, .string m.text, .slice m.na m.nn m.nc, .slice m.ka m.nk m.kc, .slice kk kn kc]
  have O := Onw.alloc w (Obj.cells #[.int .i64 p, .int .i64 m.kind, .int .i64 m.frm, .int .i64 m.tto, .int .i64 m.line, .int .i64 m.op, .int .i64 m.num, .float .f64 m.flt, .string m.text, .slice m.na m.nn m.nc, .slice m.ka m.nk m.kc, .slice kk kn kc] 100)
  have bc := B.cell
  have a_bare := as_bare_yes
  go_enter Try.func28, Try.ntmps28
  go_wp2_with fail
  refine (usesOnly_any m p kk kn kc 0 _ false false false false false (by simp)).mono ?_
  rintro e w1 ⟨rfl, hb⟩
  replace B := B.onw hb
  replace O := O.trans hb
  clear hb bc
  have bc := B.cell
  cases h0 : usesP m.toPD false false false false false
  · go_wp2_with fail
    go_ret
    exact ⟨ret_bool (by first | rfl | (rw [h0]; rfl) | (rw [h0, h1]; rfl) | (rw [h0, h1, h2]; rfl) | (rw [h0, h1, h2, h3]; rfl) | (rw [h0, h9]; rfl) | (simp [*]; done) | (simp_all; done)), O⟩
  · go_wp2_with fail
    refine (kidsAre_any m p kk kn kc q none 0 0 (classF []) _ hn (hk.onw O) (fun h => absurd h (Nat.not_lt_zero _))).mono ?_
    rintro e w2 ⟨rfl, hb⟩
    replace B := B.onw hb
    replace O := O.trans hb
    clear hb bc
    have bc := B.cell
    go_wp2_with fail
    go_ret
    exact ⟨ret_bool (by first | rfl | (rw [h0]; rfl) | (rw [h0, h1]; rfl) | (rw [h0, h1, h2]; rfl) | (rw [h0, h1, h2, h3]; rfl) | (rw [h0, h9]; rfl) | (simp [*]; done) | (simp_all; done)), O⟩

set_option maxRecDepth 100000 in
set_option maxHeartbeats 4000000 in
theorem ef_rest (m : PM) (p : Int) (kk : Option Addr) (kn kc : Nat) (q : Nat → Option PX) (w : World) (hn : kn ≤ 1048576) (hk : ValsAt w kk kn (fun j => pv (q j))) (hkc : kn ≤ kc) (hnn : m.nn ≤ 1048576) (hz : ∀ i, i < m.nn → (m.nm i).size ≤ 1048576) (htx : m.text.size ≤ 1048576) (hm : StrsAt w m.na m.nn m.nm) :
    Calls Try.prog 28 #[.iface 101 (.agg #[.int .i64 p, .int .i64 m.kind, .int .i64 m.frm, .int .i64 m.tto, .int .i64 m.line, .int .i64 m.op, .int .i64 m.num, .float .f64 m.flt, .string m.text, .slice m.na m.nn m.nc, .slice m.ka m.nk m.kc, .slice kk kn kc])] w fun e w' => e = .returned (.bool (usesP m.toPD false false false false false && (kidsR [] kn q))) ∧ Onw w w' := by
  have _use := And.intro hkc (And.intro hnn (And.intro hz (And.intro htx (And.intro hm (And.intro hn hk)))))
  clear _use
  have B := Blk.new w 101 #[.int .i64 p, .int .i64 m.kind, .int .i64 m.frm, .int .i64 m.tto, .int .i64 m.line, .int .i64 m.op, .int .i64 m.num, .float .f64 m.flt, .string m.text, .slice m.na m.nn m.nc, .slice m.ka m.nk m.kc, .slice kk kn kc]
  have O := Onw.alloc w (Obj.cells #[.int .i64 p, .int .i64 m.kind, .int .i64 m.frm, .int .i64 m.tto, .int .i64 m.line, .int .i64 m.op, .int .i64 m.num, .float .f64 m.flt, .string m.text, .slice m.na m.nn m.nc, .slice m.ka m.nk m.kc, .slice kk kn kc] 101)
  have bc := B.cell
  have a_bare := as_bare_no (t := 101) (by decide)
  have a_rest := as_rest_yes
  go_enter Try.func28, Try.ntmps28
  go_wp2_with fail
  refine (usesOnly_any m p kk kn kc 0 _ false false false false false (by simp)).mono ?_
  rintro e w1 ⟨rfl, hb⟩
  replace B := B.onw hb
  replace O := O.trans hb
  clear hb bc
  have bc := B.cell
  cases h0 : usesP m.toPD false false false false false
  · go_wp2_with fail
    go_ret
    exact ⟨ret_bool (by first | rfl | (rw [h0]; rfl) | (rw [h0, h1]; rfl) | (rw [h0, h1, h2]; rfl) | (rw [h0, h1, h2, h3]; rfl) | (rw [h0, h9]; rfl) | (simp [*]; done) | (simp_all; done)), O⟩
  · go_wp2_with fail
    refine (kidsAre_any m p kk kn kc q none 0 0 (classF []) _ hn (hk.onw O) (fun h => absurd h (Nat.not_lt_zero _))).mono ?_
    rintro e w2 ⟨rfl, hb⟩
    replace B := B.onw hb
    replace O := O.trans hb
    clear hb bc
    have bc := B.cell
    go_wp2_with fail
    go_ret
    exact ⟨ret_bool (by first | rfl | (rw [h0]; rfl) | (rw [h0, h1]; rfl) | (rw [h0, h1, h2]; rfl) | (rw [h0, h1, h2, h3]; rfl) | (rw [h0, h9]; rfl) | (simp [*]; done) | (simp_all; done)), O⟩

set_option maxRecDepth 100000 in
set_option maxHeartbeats 4000000 in
theorem ef_int (m : PM) (p : Int) (kk : Option Addr) (kn kc : Nat) (q : Nat → Option PX) (w : World) (hn : kn ≤ 1048576) (hk : ValsAt w kk kn (fun j => pv (q j))) (hkc : kn ≤ kc) (hnn : m.nn ≤ 1048576) (hz : ∀ i, i < m.nn → (m.nm i).size ≤ 1048576) (htx : m.text.size ≤ 1048576) (hm : StrsAt w m.na m.nn m.nm) :
    Calls Try.prog 28 #[.iface 102 (.agg #[.int .i64 p, .int .i64 m.kind, .int .i64 m.frm, .int .i64 m.tto, .int .i64 m.line, .int .i64 m.op, .int .i64 m.num, .float .f64 m.flt, .string m.text, .slice m.na m.nn m.nc, .slice m.ka m.nk m.kc, .slice kk kn kc])] w fun e w' => e = .returned (.bool (usesP m.toPD false true false false false && (kidsR [] kn q))) ∧ Onw w w' := by
  have _use := And.intro hkc (And.intro hnn (And.intro hz (And.intro htx (And.intro hm (And.intro hn hk)))))
  clear _use
  have B := Blk.new w 102 #[.int .i64 p, .int .i64 m.kind, .int .i64 m.frm, .int .i64 m.tto, .int .i64 m.line, .int .i64 m.op, .int .i64 m.num, .float .f64 m.flt, .string m.text, .slice m.na m.nn m.nc, .slice m.ka m.nk m.kc, .slice kk kn kc]
  have O := Onw.alloc w (Obj.cells #[.int .i64 p, .int .i64 m.kind, .int .i64 m.frm, .int .i64 m.tto, .int .i64 m.line, .int .i64 m.op, .int .i64 m.num, .float .f64 m.flt, .string m.text, .slice m.na m.nn m.nc, .slice m.ka m.nk m.kc, .slice kk kn kc] 102)
  have bc := B.cell
  have a_bare := as_bare_no (t := 102) (by decide)
  have a_rest := as_rest_no (t := 102) (by decide)
  have a_int := as_int_yes
  go_enter Try.func28, Try.ntmps28
  go_wp2_with fail
  refine (usesOnly_any m p kk kn kc 2 _ false true false false false (by simp)).mono ?_
  rintro e w1 ⟨rfl, hb⟩
  replace B := B.onw hb
  replace O := O.trans hb
  clear hb bc
  have bc := B.cell
  cases h0 : usesP m.toPD false true false false false
  · go_wp2_with fail
    go_ret
    exact ⟨ret_bool (by first | rfl | (rw [h0]; rfl) | (rw [h0, h1]; rfl) | (rw [h0, h1, h2]; rfl) | (rw [h0, h1, h2, h3]; rfl) | (rw [h0, h9]; rfl) | (simp [*]; done) | (simp_all; done)), O⟩
  · go_wp2_with fail
    refine (kidsAre_any m p kk kn kc q none 0 0 (classF []) _ hn (hk.onw O) (fun h => absurd h (Nat.not_lt_zero _))).mono ?_
    rintro e w2 ⟨rfl, hb⟩
    replace B := B.onw hb
    replace O := O.trans hb
    clear hb bc
    have bc := B.cell
    go_wp2_with fail
    go_ret
    exact ⟨ret_bool (by first | rfl | (rw [h0]; rfl) | (rw [h0, h1]; rfl) | (rw [h0, h1, h2]; rfl) | (rw [h0, h1, h2, h3]; rfl) | (rw [h0, h9]; rfl) | (simp [*]; done) | (simp_all; done)), O⟩

set_option maxRecDepth 100000 in
set_option maxHeartbeats 4000000 in
theorem ef_either (m : PM) (p : Int) (kk : Option Addr) (kn kc : Nat) (q : Nat → Option PX) (w : World) (hn : kn ≤ 1048576) (hk : ValsAt w kk kn (fun j => pv (q j))) (hkc : kn ≤ kc) (hnn : m.nn ≤ 1048576) (hz : ∀ i, i < m.nn → (m.nm i).size ≤ 1048576) (htx : m.text.size ≤ 1048576) (hm : StrsAt w m.na m.nn m.nm) :
    Calls Try.prog 28 #[.iface 107 (.agg #[.int .i64 p, .int .i64 m.kind, .int .i64 m.frm, .int .i64 m.tto, .int .i64 m.line, .int .i64 m.op, .int .i64 m.num, .float .f64 m.flt, .string m.text, .slice m.na m.nn m.nc, .slice m.ka m.nk m.kc, .slice kk kn kc])] w fun e w' => e = .returned (.bool (usesP m.toPD false false false false false && (kidsR [8, 8] kn q))) ∧ Onw w w' := by
  have _use := And.intro hkc (And.intro hnn (And.intro hz (And.intro htx (And.intro hm (And.intro hn hk)))))
  clear _use
  have B := Blk.new w 107 #[.int .i64 p, .int .i64 m.kind, .int .i64 m.frm, .int .i64 m.tto, .int .i64 m.line, .int .i64 m.op, .int .i64 m.num, .float .f64 m.flt, .string m.text, .slice m.na m.nn m.nc, .slice m.ka m.nk m.kc, .slice kk kn kc]
  have O := Onw.alloc w (Obj.cells #[.int .i64 p, .int .i64 m.kind, .int .i64 m.frm, .int .i64 m.tto, .int .i64 m.line, .int .i64 m.op, .int .i64 m.num, .float .f64 m.flt, .string m.text, .slice m.na m.nn m.nc, .slice m.ka m.nk m.kc, .slice kk kn kc] 107)
  have bc := B.cell
  have a_bare := as_bare_no (t := 107) (by decide)
  have a_rest := as_rest_no (t := 107) (by decide)
  have a_int := as_int_no (t := 107) (by decide)
  have a_flt := as_flt_no (t := 107) (by decide)
  have a_str := as_str_no (t := 107) (by decide)
  have a_name := as_name_no (t := 107) (by decide)
  have a_either := as_either_yes
  go_enter Try.func28, Try.ntmps28
  go_wp2_with fail
  refine (usesOnly_any m p kk kn kc 0 _ false false false false false (by simp)).mono ?_
  rintro e w1 ⟨rfl, hb⟩
  replace B := B.onw hb
  replace O := O.trans hb
  clear hb bc
  have bc := B.cell
  cases h0 : usesP m.toPD false false false false false
  · go_wp2_with fail
    go_ret
    exact ⟨ret_bool (by first | rfl | (rw [h0]; rfl) | (rw [h0, h1]; rfl) | (rw [h0, h1, h2]; rfl) | (rw [h0, h1, h2, h3]; rfl) | (rw [h0, h9]; rfl) | (simp [*]; done) | (simp_all; done)), O⟩
  · go_wp2_with fail
    refine (kidsAre_any m p kk kn kc q _ 2 _ (classF [8, 8]) _ hn (hk.onw (O.trans (Onw.alloc _ _))) (by exact lay2 _ _ 8 8)).mono ?_
    rintro e w2 ⟨rfl, hb⟩
    replace hb := (Onw.alloc _ _).trans hb
    replace B := B.onw hb
    replace O := O.trans hb
    clear hb bc
    have bc := B.cell
    go_wp2_with fail
    go_ret
    exact ⟨ret_bool (by first | rfl | (rw [h0]; rfl) | (rw [h0, h1]; rfl) | (rw [h0, h1, h2]; rfl) | (rw [h0, h1, h2, h3]; rfl) | (rw [h0, h9]; rfl) | (simp [*]; done) | (simp_all; done)), O⟩

set_option maxRecDepth 100000 in
set_option maxHeartbeats 4000000 in
theorem ef_index (m : PM) (p : Int) (kk : Option Addr) (kn kc : Nat) (q : Nat → Option PX) (w : World) (hn : kn ≤ 1048576) (hk : ValsAt w kk kn (fun j => pv (q j))) (hkc : kn ≤ kc) (hnn : m.nn ≤ 1048576) (hz : ∀ i, i < m.nn → (m.nm i).size ≤ 1048576) (htx : m.text.size ≤ 1048576) (hm : StrsAt w m.na m.nn m.nm) :
    Calls Try.prog 28 #[.iface 110 (.agg #[.int .i64 p, .int .i64 m.kind, .int .i64 m.frm, .int .i64 m.tto, .int .i64 m.line, .int .i64 m.op, .int .i64 m.num, .float .f64 m.flt, .string m.text, .slice m.na m.nn m.nc, .slice m.ka m.nk m.kc, .slice kk kn kc])] w fun e w' => e = .returned (.bool (usesP m.toPD false false false false false && (kidsR [16, 8] kn q))) ∧ Onw w w' := by
  have _use := And.intro hkc (And.intro hnn (And.intro hz (And.intro htx (And.intro hm (And.intro hn hk)))))
  clear _use
  have B := Blk.new w 110 #[.int .i64 p, .int .i64 m.kind, .int .i64 m.frm, .int .i64 m.tto, .int .i64 m.line, .int .i64 m.op, .int .i64 m.num, .float .f64 m.flt, .string m.text, .slice m.na m.nn m.nc, .slice m.ka m.nk m.kc, .slice kk kn kc]
  have O := Onw.alloc w (Obj.cells #[.int .i64 p, .int .i64 m.kind, .int .i64 m.frm, .int .i64 m.tto, .int .i64 m.line, .int .i64 m.op, .int .i64 m.num, .float .f64 m.flt, .string m.text, .slice m.na m.nn m.nc, .slice m.ka m.nk m.kc, .slice kk kn kc] 110)
  have bc := B.cell
  have a_bare := as_bare_no (t := 110) (by decide)
  have a_rest := as_rest_no (t := 110) (by decide)
  have a_int := as_int_no (t := 110) (by decide)
  have a_flt := as_flt_no (t := 110) (by decide)
  have a_str := as_str_no (t := 110) (by decide)
  have a_name := as_name_no (t := 110) (by decide)
  have a_either := as_either_no (t := 110) (by decide)
  have a_unary := as_unary_no (t := 110) (by decide)
  have a_binary := as_binary_no (t := 110) (by decide)
  have a_index := as_index_yes
  go_enter Try.func28, Try.ntmps28
  go_wp2_with fail
  refine (usesOnly_any m p kk kn kc 0 _ false false false false false (by simp)).mono ?_
  rintro e w1 ⟨rfl, hb⟩
  replace B := B.onw hb
  replace O := O.trans hb
  clear hb bc
  have bc := B.cell
  cases h0 : usesP m.toPD false false false false false
  · go_wp2_with fail
    go_ret
    exact ⟨ret_bool (by first | rfl | (rw [h0]; rfl) | (rw [h0, h1]; rfl) | (rw [h0, h1, h2]; rfl) | (rw [h0, h1, h2, h3]; rfl) | (rw [h0, h9]; rfl) | (simp [*]; done) | (simp_all; done)), O⟩
  · go_wp2_with fail
    refine (kidsAre_any m p kk kn kc q _ 2 _ (classF [16, 8]) _ hn (hk.onw (O.trans (Onw.alloc _ _))) (by exact lay2 _ _ 16 8)).mono ?_
    rintro e w2 ⟨rfl, hb⟩
    replace hb := (Onw.alloc _ _).trans hb
    replace B := B.onw hb
    replace O := O.trans hb
    clear hb bc
    have bc := B.cell
    go_wp2_with fail
    go_ret
    exact ⟨ret_bool (by first | rfl | (rw [h0]; rfl) | (rw [h0, h1]; rfl) | (rw [h0, h1, h2]; rfl) | (rw [h0, h1, h2, h3]; rfl) | (rw [h0, h9]; rfl) | (simp [*]; done) | (simp_all; done)), O⟩

set_option maxRecDepth 100000 in
set_option maxHeartbeats 4000000 in
theorem ef_table (m : PM) (p : Int) (kk : Option Addr) (kn kc : Nat) (q : Nat → Option PX) (w : World) (hn : kn ≤ 1048576) (hk : ValsAt w kk kn (fun j => pv (q j))) (hkc : kn ≤ kc) (hnn : m.nn ≤ 1048576) (hz : ∀ i, i < m.nn → (m.nm i).size ≤ 1048576) (htx : m.text.size ≤ 1048576) (hm : StrsAt w m.na m.nn m.nm) :
    Calls Try.prog 28 #[.iface 113 (.agg #[.int .i64 p, .int .i64 m.kind, .int .i64 m.frm, .int .i64 m.tto, .int .i64 m.line, .int .i64 m.op, .int .i64 m.num, .float .f64 m.flt, .string m.text, .slice m.na m.nn m.nc, .slice m.ka m.nk m.kc, .slice kk kn kc])] w fun e w' => e = .returned (.bool (usesP m.toPD false false false false false && (standR 512 kn q))) ∧ Onw w w' := by
  have _use := And.intro hkc (And.intro hnn (And.intro hz (And.intro htx (And.intro hm (And.intro hn hk)))))
  clear _use
  have B := Blk.new w 113 #[.int .i64 p, .int .i64 m.kind, .int .i64 m.frm, .int .i64 m.tto, .int .i64 m.line, .int .i64 m.op, .int .i64 m.num, .float .f64 m.flt, .string m.text, .slice m.na m.nn m.nc, .slice m.ka m.nk m.kc, .slice kk kn kc]
  have O := Onw.alloc w (Obj.cells #[.int .i64 p, .int .i64 m.kind, .int .i64 m.frm, .int .i64 m.tto, .int .i64 m.line, .int .i64 m.op, .int .i64 m.num, .float .f64 m.flt, .string m.text, .slice m.na m.nn m.nc, .slice m.ka m.nk m.kc, .slice kk kn kc] 113)
  have bc := B.cell
  have a_bare := as_bare_no (t := 113) (by decide)
  have a_rest := as_rest_no (t := 113) (by decide)
  have a_int := as_int_no (t := 113) (by decide)
  have a_flt := as_flt_no (t := 113) (by decide)
  have a_str := as_str_no (t := 113) (by decide)
  have a_name := as_name_no (t := 113) (by decide)
  have a_either := as_either_no (t := 113) (by decide)
  have a_unary := as_unary_no (t := 113) (by decide)
  have a_binary := as_binary_no (t := 113) (by decide)
  have a_index := as_index_no (t := 113) (by decide)
  have a_field := as_field_no (t := 113) (by decide)
  have a_call := as_call_no (t := 113) (by decide)
  have a_table := as_table_yes
  go_enter Try.func28, Try.ntmps28
  go_wp2_with fail
  refine (usesOnly_any m p kk kn kc 0 _ false false false false false (by simp)).mono ?_
  rintro e w1 ⟨rfl, hb⟩
  replace B := B.onw hb
  replace O := O.trans hb
  clear hb bc
  have bc := B.cell
  cases h0 : usesP m.toPD false false false false false
  · go_wp2_with fail
    go_ret
    exact ⟨ret_bool (by first | rfl | (rw [h0]; rfl) | (rw [h0, h1]; rfl) | (rw [h0, h1, h2]; rfl) | (rw [h0, h1, h2, h3]; rfl) | (rw [h0, h9]; rfl) | (simp [*]; done) | (simp_all; done)), O⟩
  · go_wp2_with fail
    refine (standAs_any _ _ _ q 512 _ hn (hk.onw O)).mono ?_
    rintro e w2 ⟨rfl, hb⟩
    replace B := B.onw hb
    replace O := O.trans hb
    clear hb bc
    have bc := B.cell
    go_wp2_with fail
    go_ret
    exact ⟨ret_bool (by first | rfl | (rw [h0]; rfl) | (rw [h0, h1]; rfl) | (rw [h0, h1, h2]; rfl) | (rw [h0, h1, h2, h3]; rfl) | (rw [h0, h9]; rfl) | (simp [*]; done) | (simp_all; done)), O⟩

set_option maxRecDepth 100000 in
set_option maxHeartbeats 4000000 in
theorem ef_one (m : PM) (p : Int) (kk : Option Addr) (kn kc : Nat) (q : Nat → Option PX) (w : World) (hn : kn ≤ 1048576) (hk : ValsAt w kk kn (fun j => pv (q j))) (hkc : kn ≤ kc) (hnn : m.nn ≤ 1048576) (hz : ∀ i, i < m.nn → (m.nm i).size ≤ 1048576) (htx : m.text.size ≤ 1048576) (hm : StrsAt w m.na m.nn m.nm) :
    Calls Try.prog 28 #[.iface 116 (.agg #[.int .i64 p, .int .i64 m.kind, .int .i64 m.frm, .int .i64 m.tto, .int .i64 m.line, .int .i64 m.op, .int .i64 m.num, .float .f64 m.flt, .string m.text, .slice m.na m.nn m.nc, .slice m.ka m.nk m.kc, .slice kk kn kc])] w fun e w' => e = .returned (.bool (usesP m.toPD false false false false false && (kidsR [64] kn q))) ∧ Onw w w' := by
  have _use := And.intro hkc (And.intro hnn (And.intro hz (And.intro htx (And.intro hm (And.intro hn hk)))))
  clear _use
  have B := Blk.new w 116 #[.int .i64 p, .int .i64 m.kind, .int .i64 m.frm, .int .i64 m.tto, .int .i64 m.line, .int .i64 m.op, .int .i64 m.num, .float .f64 m.flt, .string m.text, .slice m.na m.nn m.nc, .slice m.ka m.nk m.kc, .slice kk kn kc]
  have O := Onw.alloc w (Obj.cells #[.int .i64 p, .int .i64 m.kind, .int .i64 m.frm, .int .i64 m.tto, .int .i64 m.line, .int .i64 m.op, .int .i64 m.num, .float .f64 m.flt, .string m.text, .slice m.na m.nn m.nc, .slice m.ka m.nk m.kc, .slice kk kn kc] 116)
  have bc := B.cell
  have a_bare := as_bare_no (t := 116) (by decide)
  have a_rest := as_rest_no (t := 116) (by decide)
  have a_int := as_int_no (t := 116) (by decide)
  have a_flt := as_flt_no (t := 116) (by decide)
  have a_str := as_str_no (t := 116) (by decide)
  have a_name := as_name_no (t := 116) (by decide)
  have a_either := as_either_no (t := 116) (by decide)
  have a_unary := as_unary_no (t := 116) (by decide)
  have a_binary := as_binary_no (t := 116) (by decide)
  have a_index := as_index_no (t := 116) (by decide)
  have a_field := as_field_no (t := 116) (by decide)
  have a_call := as_call_no (t := 116) (by decide)
  have a_table := as_table_no (t := 116) (by decide)
  have a_fn := as_fn_no (t := 116) (by decide)
  have a_one := as_one_yes
  go_enter Try.func28, Try.ntmps28
  go_wp2_with fail
  refine (usesOnly_any m p kk kn kc 0 _ false false false false false (by simp)).mono ?_
  rintro e w1 ⟨rfl, hb⟩
  replace B := B.onw hb
  replace O := O.trans hb
  clear hb bc
  have bc := B.cell
  cases h0 : usesP m.toPD false false false false false
  · go_wp2_with fail
    go_ret
    exact ⟨ret_bool (by first | rfl | (rw [h0]; rfl) | (rw [h0, h1]; rfl) | (rw [h0, h1, h2]; rfl) | (rw [h0, h1, h2, h3]; rfl) | (rw [h0, h9]; rfl) | (simp [*]; done) | (simp_all; done)), O⟩
  · go_wp2_with fail
    refine (kidsAre_any m p kk kn kc q _ 1 _ (classF [64]) _ hn (hk.onw (O.trans (Onw.alloc _ _))) (by exact lay1 _ _ 64)).mono ?_
    rintro e w2 ⟨rfl, hb⟩
    replace hb := (Onw.alloc _ _).trans hb
    replace B := B.onw hb
    replace O := O.trans hb
    clear hb bc
    have bc := B.cell
    go_wp2_with fail
    go_ret
    exact ⟨ret_bool (by first | rfl | (rw [h0]; rfl) | (rw [h0, h1]; rfl) | (rw [h0, h1, h2]; rfl) | (rw [h0, h1, h2, h3]; rfl) | (rw [h0, h9]; rfl) | (simp [*]; done) | (simp_all; done)), O⟩

end Go.Proofs.Ytnokgdgikdgaeaa

namespace Go.Proofs.Ytnokgdgikdgaeaa
open Go.RowKit
attribute [local go_sem] run_store_float

set_option maxRecDepth 100000 in
set_option maxHeartbeats 4000000 in
theorem nf_item (m : PM) (p : Int) (kk : Option Addr) (kn kc : Nat) (q : Nat → Option PX) (w : World) (hn : kn ≤ 1048576) (hk : ValsAt w kk kn (fun j => pv (q j))) (hkc : kn ≤ kc) (hnn : m.nn ≤ 1048576) (hz : ∀ i, i < m.nn → (m.nm i).size ≤ 1048576) (htx : m.text.size ≤ 1048576) (hm : StrsAt w m.na m.nn m.nm) :
    Calls Try.prog 29 #[.iface 119 (.agg #[.int .i64 p, .int .i64 m.kind, .int .i64 m.frm, .int .i64 m.tto, .int .i64 m.line, .int .i64 m.op, .int .i64 m.num, .float .f64 m.flt, .string m.text, .slice m.na m.nn m.nc, .slice m.ka m.nk m.kc, .slice kk kn kc])] w fun e w' => e = .returned (.bool (usesP m.toPD false false false false false && (kidsR [8] kn q))) ∧ Onw w w' := by
  have _use := And.intro hkc (And.intro hnn (And.intro hz (And.intro htx (And.intro hm (And.intro hn hk)))))
  clear _use
  have B := Blk.new w 119 #[.int .i64 p, .int .i64 m.kind, .int .i64 m.frm, .int .i64 m.tto, .int .i64 m.line, .int .i64 m.op, .int .i64 m.num, .float .f64 m.flt, .string m.text, .slice m.na m.nn m.nc, .slice m.ka m.nk m.kc, .slice kk kn kc]
  have O := Onw.alloc w (Obj.cells #[.int .i64 p, .int .i64 m.kind, .int .i64 m.frm, .int .i64 m.tto, .int .i64 m.line, .int .i64 m.op, .int .i64 m.num, .float .f64 m.flt, .string m.text, .slice m.na m.nn m.nc, .slice m.ka m.nk m.kc, .slice kk kn kc] 119)
  have bc := B.cell
  have a_item := as_item_yes
  go_enter Try.func29, Try.ntmps29
  go_wp2_with fail
  refine (usesOnly_any m p kk kn kc 0 _ false false false false false (by simp)).mono ?_
  rintro e w1 ⟨rfl, hb⟩
  replace B := B.onw hb
  replace O := O.trans hb
  clear hb bc
  have bc := B.cell
  cases h0 : usesP m.toPD false false false false false
  · go_wp2_with fail
    go_ret
    exact ⟨ret_bool (by first | rfl | (rw [h0]; rfl) | (rw [h0, h1]; rfl) | (rw [h0, h1, h2]; rfl) | (rw [h0, h1, h2, h3]; rfl) | (rw [h0, h9]; rfl) | (simp [*]; done) | (simp_all; done)), O⟩
  · go_wp2_with fail
    refine (kidsAre_any m p kk kn kc q _ 1 _ (classF [8]) _ hn (hk.onw (O.trans (Onw.alloc _ _))) (by exact lay1 _ _ 8)).mono ?_
    rintro e w2 ⟨rfl, hb⟩
    replace hb := (Onw.alloc _ _).trans hb
    replace B := B.onw hb
    replace O := O.trans hb
    clear hb bc
    have bc := B.cell
    go_wp2_with fail
    go_ret
    exact ⟨ret_bool (by first | rfl | (rw [h0]; rfl) | (rw [h0, h1]; rfl) | (rw [h0, h1, h2]; rfl) | (rw [h0, h1, h2, h3]; rfl) | (rw [h0, h9]; rfl) | (simp [*]; done) | (simp_all; done)), O⟩

set_option maxRecDepth 100000 in
set_option maxHeartbeats 4000000 in
theorem nf_pair (m : PM) (p : Int) (kk : Option Addr) (kn kc : Nat) (q : Nat → Option PX) (w : World) (hn : kn ≤ 1048576) (hk : ValsAt w kk kn (fun j => pv (q j))) (hkc : kn ≤ kc) (hnn : m.nn ≤ 1048576) (hz : ∀ i, i < m.nn → (m.nm i).size ≤ 1048576) (htx : m.text.size ≤ 1048576) (hm : StrsAt w m.na m.nn m.nm) :
    Calls Try.prog 29 #[.iface 120 (.agg #[.int .i64 p, .int .i64 m.kind, .int .i64 m.frm, .int .i64 m.tto, .int .i64 m.line, .int .i64 m.op, .int .i64 m.num, .float .f64 m.flt, .string m.text, .slice m.na m.nn m.nc, .slice m.ka m.nk m.kc, .slice kk kn kc])] w fun e w' => e = .returned (.bool (usesP m.toPD false false false false false && (kidsR [8, 8] kn q))) ∧ Onw w w' := by
  have _use := And.intro hkc (And.intro hnn (And.intro hz (And.intro htx (And.intro hm (And.intro hn hk)))))
  clear _use
  have B := Blk.new w 120 #[.int .i64 p, .int .i64 m.kind, .int .i64 m.frm, .int .i64 m.tto, .int .i64 m.line, .int .i64 m.op, .int .i64 m.num, .float .f64 m.flt, .string m.text, .slice m.na m.nn m.nc, .slice m.ka m.nk m.kc, .slice kk kn kc]
  have O := Onw.alloc w (Obj.cells #[.int .i64 p, .int .i64 m.kind, .int .i64 m.frm, .int .i64 m.tto, .int .i64 m.line, .int .i64 m.op, .int .i64 m.num, .float .f64 m.flt, .string m.text, .slice m.na m.nn m.nc, .slice m.ka m.nk m.kc, .slice kk kn kc] 120)
  have bc := B.cell
  have a_item := as_item_no (t := 120) (by decide)
  have a_pair := as_pair_yes
  go_enter Try.func29, Try.ntmps29
  go_wp2_with fail
  refine (usesOnly_any m p kk kn kc 0 _ false false false false false (by simp)).mono ?_
  rintro e w1 ⟨rfl, hb⟩
  replace B := B.onw hb
  replace O := O.trans hb
  clear hb bc
  have bc := B.cell
  cases h0 : usesP m.toPD false false false false false
  · go_wp2_with fail
    go_ret
    exact ⟨ret_bool (by first | rfl | (rw [h0]; rfl) | (rw [h0, h1]; rfl) | (rw [h0, h1, h2]; rfl) | (rw [h0, h1, h2, h3]; rfl) | (rw [h0, h9]; rfl) | (simp [*]; done) | (simp_all; done)), O⟩
  · go_wp2_with fail
    refine (kidsAre_any m p kk kn kc q _ 2 _ (classF [8, 8]) _ hn (hk.onw (O.trans (Onw.alloc _ _))) (by exact lay2 _ _ 8 8)).mono ?_
    rintro e w2 ⟨rfl, hb⟩
    replace hb := (Onw.alloc _ _).trans hb
    replace B := B.onw hb
    replace O := O.trans hb
    clear hb bc
    have bc := B.cell
    go_wp2_with fail
    go_ret
    exact ⟨ret_bool (by first | rfl | (rw [h0]; rfl) | (rw [h0, h1]; rfl) | (rw [h0, h1, h2]; rfl) | (rw [h0, h1, h2, h3]; rfl) | (rw [h0, h9]; rfl) | (simp [*]; done) | (simp_all; done)), O⟩

set_option maxRecDepth 100000 in
set_option maxHeartbeats 4000000 in
theorem nf_named (m : PM) (p : Int) (kk : Option Addr) (kn kc : Nat) (q : Nat → Option PX) (w : World) (hn : kn ≤ 1048576) (hk : ValsAt w kk kn (fun j => pv (q j))) (hkc : kn ≤ kc) (hnn : m.nn ≤ 1048576) (hz : ∀ i, i < m.nn → (m.nm i).size ≤ 1048576) (htx : m.text.size ≤ 1048576) (hm : StrsAt w m.na m.nn m.nm) :
    Calls Try.prog 29 #[.iface 121 (.agg #[.int .i64 p, .int .i64 m.kind, .int .i64 m.frm, .int .i64 m.tto, .int .i64 m.line, .int .i64 m.op, .int .i64 m.num, .float .f64 m.flt, .string m.text, .slice m.na m.nn m.nc, .slice m.ka m.nk m.kc, .slice kk kn kc])] w fun e w' => e = .returned (.bool (usesP m.toPD false false false true false && (nameB m.text && (kidsR [8] kn q)))) ∧ Onw w w' := by
  have _use := And.intro hkc (And.intro hnn (And.intro hz (And.intro htx (And.intro hm (And.intro hn hk)))))
  clear _use
  have B := Blk.new w 121 #[.int .i64 p, .int .i64 m.kind, .int .i64 m.frm, .int .i64 m.tto, .int .i64 m.line, .int .i64 m.op, .int .i64 m.num, .float .f64 m.flt, .string m.text, .slice m.na m.nn m.nc, .slice m.ka m.nk m.kc, .slice kk kn kc]
  have O := Onw.alloc w (Obj.cells #[.int .i64 p, .int .i64 m.kind, .int .i64 m.frm, .int .i64 m.tto, .int .i64 m.line, .int .i64 m.op, .int .i64 m.num, .float .f64 m.flt, .string m.text, .slice m.na m.nn m.nc, .slice m.ka m.nk m.kc, .slice kk kn kc] 121)
  have bc := B.cell
  have a_item := as_item_no (t := 121) (by decide)
  have a_pair := as_pair_no (t := 121) (by decide)
  have a_named := as_named_yes
  go_enter Try.func29, Try.ntmps29
  go_wp2_with fail
  refine (usesOnly_any m p kk kn kc 8 _ false false false true false (by simp)).mono ?_
  rintro e w1 ⟨rfl, hb⟩
  replace B := B.onw hb
  replace O := O.trans hb
  clear hb bc
  have bc := B.cell
  cases h0 : usesP m.toPD false false false true false
  · go_wp2_with fail
    go_ret
    exact ⟨ret_bool (by first | rfl | (rw [h0]; rfl) | (rw [h0, h1]; rfl) | (rw [h0, h1, h2]; rfl) | (rw [h0, h1, h2, h3]; rfl) | (rw [h0, h9]; rfl) | (simp [*]; done) | (simp_all; done)), O⟩
  · go_wp2_with fail
    refine (isName_any _ _ htx).mono ?_
    rintro e v1 ⟨rfl, rfl⟩
    cases h1 : nameB m.text
    · go_wp2_with fail
      go_ret
      exact ⟨ret_bool (by first | rfl | (rw [h0]; rfl) | (rw [h0, h1]; rfl) | (rw [h0, h1, h2]; rfl) | (rw [h0, h1, h2, h3]; rfl) | (rw [h0, h9]; rfl) | (simp [*]; done) | (simp_all; done)), O⟩
    · go_wp2_with fail
      refine (kidsAre_any m p kk kn kc q _ 1 _ (classF [8]) _ hn (hk.onw (O.trans (Onw.alloc _ _))) (by exact lay1 _ _ 8)).mono ?_
      rintro e w3 ⟨rfl, hb⟩
      replace hb := (Onw.alloc _ _).trans hb
      replace B := B.onw hb
      replace O := O.trans hb
      clear hb bc
      have bc := B.cell
      go_wp2_with fail
      go_ret
      exact ⟨ret_bool (by first | rfl | (rw [h0]; rfl) | (rw [h0, h1]; rfl) | (rw [h0, h1, h2]; rfl) | (rw [h0, h1, h2, h3]; rfl) | (rw [h0, h9]; rfl) | (simp [*]; done) | (simp_all; done)), O⟩

end Go.Proofs.Ytnokgdgikdgaeaa

namespace Go.Proofs.Ytnokgdgikdgaeaa
open Go.RowKit
attribute [local go_sem] run_store_float

set_option maxRecDepth 100000 in
set_option maxHeartbeats 4000000 in
theorem ef_flt (m : PM) (p : Int) (kk : Option Addr) (kn kc : Nat) (q : Nat → Option PX) (w : World) (hn : kn ≤ 1048576) (hk : ValsAt w kk kn (fun j => pv (q j))) (hkc : kn ≤ kc) (hnn : m.nn ≤ 1048576) (hz : ∀ i, i < m.nn → (m.nm i).size ≤ 1048576) (htx : m.text.size ≤ 1048576) (hm : StrsAt w m.na m.nn m.nm) :
    Calls Try.prog 28 #[.iface 103 (.agg #[.int .i64 p, .int .i64 m.kind, .int .i64 m.frm, .int .i64 m.tto, .int .i64 m.line, .int .i64 m.op, .int .i64 m.num, .float .f64 m.flt, .string m.text, .slice m.na m.nn m.nc, .slice m.ka m.nk m.kc, .slice kk kn kc])] w fun e w' => e = .returned (.bool (usesP m.toPD false false true false false && (fnum m.flt && (kidsR [] kn q)))) ∧ Onw w w' := by
  have _use := And.intro hkc (And.intro hnn (And.intro hz (And.intro htx (And.intro hm (And.intro hn hk)))))
  clear _use
  have B := Blk.new w 103 #[.int .i64 p, .int .i64 m.kind, .int .i64 m.frm, .int .i64 m.tto, .int .i64 m.line, .int .i64 m.op, .int .i64 m.num, .float .f64 m.flt, .string m.text, .slice m.na m.nn m.nc, .slice m.ka m.nk m.kc, .slice kk kn kc]
  have O := Onw.alloc w (Obj.cells #[.int .i64 p, .int .i64 m.kind, .int .i64 m.frm, .int .i64 m.tto, .int .i64 m.line, .int .i64 m.op, .int .i64 m.num, .float .f64 m.flt, .string m.text, .slice m.na m.nn m.nc, .slice m.ka m.nk m.kc, .slice kk kn kc] 103)
  have bc := B.cell
  have a_bare := as_bare_no (t := 103) (by decide)
  have a_rest := as_rest_no (t := 103) (by decide)
  have a_int := as_int_no (t := 103) (by decide)
  have a_flt := as_flt_yes
  go_enter Try.func28, Try.ntmps28
  go_wp2_with fail
  refine (usesOnly_any m p kk kn kc 4 _ false false true false false (by simp)).mono ?_
  rintro e w1 ⟨rfl, hb⟩
  replace B := B.onw hb
  replace O := O.trans hb
  clear hb bc
  have bc := B.cell
  cases h0 : usesP m.toPD false false true false false
  · go_wp2_with fail
    go_ret
    exact ⟨ret_bool (by first | rfl | (rw [h0]; rfl) | (rw [h0, h1]; rfl) | (rw [h0, h1, h2]; rfl) | (rw [h0, h1, h2, h3]; rfl) | (rw [h0, h9]; rfl) | (simp [*]; done) | (simp_all; done)), O⟩
  · go_wp2_with fail
    refine (isNaN_any _ _).mono ?_
    rintro e v1 ⟨rfl, rfl⟩
    cases h1 : fnum m.flt
    · go_wp2_with fail
      go_ret
      exact ⟨ret_bool (by first | rfl | (rw [h0]; rfl) | (rw [h0, h1]; rfl) | (rw [h0, h1, h2]; rfl) | (rw [h0, h1, h2, h3]; rfl) | (rw [h0, h9]; rfl) | (simp [*]; done) | (simp_all; done)), O⟩
    · go_wp2_with fail
      refine (kidsAre_any m p kk kn kc q none 0 0 (classF []) _ hn (hk.onw O) (fun h => absurd h (Nat.not_lt_zero _))).mono ?_
      rintro e w3 ⟨rfl, hb⟩
      replace B := B.onw hb
      replace O := O.trans hb
      clear hb bc
      have bc := B.cell
      go_wp2_with fail
      go_ret
      exact ⟨ret_bool (by first | rfl | (rw [h0]; rfl) | (rw [h0, h1]; rfl) | (rw [h0, h1, h2]; rfl) | (rw [h0, h1, h2, h3]; rfl) | (rw [h0, h9]; rfl) | (simp [*]; done) | (simp_all; done)), O⟩

set_option maxRecDepth 100000 in
set_option maxHeartbeats 4000000 in
theorem ef_str (m : PM) (p : Int) (kk : Option Addr) (kn kc : Nat) (q : Nat → Option PX) (w : World) (hn : kn ≤ 1048576) (hk : ValsAt w kk kn (fun j => pv (q j))) (hkc : kn ≤ kc) (hnn : m.nn ≤ 1048576) (hz : ∀ i, i < m.nn → (m.nm i).size ≤ 1048576) (htx : m.text.size ≤ 1048576) (hm : StrsAt w m.na m.nn m.nm) :
    Calls Try.prog 28 #[.iface 105 (.agg #[.int .i64 p, .int .i64 m.kind, .int .i64 m.frm, .int .i64 m.tto, .int .i64 m.line, .int .i64 m.op, .int .i64 m.num, .float .f64 m.flt, .string m.text, .slice m.na m.nn m.nc, .slice m.ka m.nk m.kc, .slice kk kn kc])] w fun e w' => e = .returned (.bool (usesP m.toPD false false false true false && (decide ((m.text.size : Int) ≤ 4000) && (kidsR [] kn q)))) ∧ Onw w w' := by
  have _use := And.intro hkc (And.intro hnn (And.intro hz (And.intro htx (And.intro hm (And.intro hn hk)))))
  clear _use
  have B := Blk.new w 105 #[.int .i64 p, .int .i64 m.kind, .int .i64 m.frm, .int .i64 m.tto, .int .i64 m.line, .int .i64 m.op, .int .i64 m.num, .float .f64 m.flt, .string m.text, .slice m.na m.nn m.nc, .slice m.ka m.nk m.kc, .slice kk kn kc]
  have O := Onw.alloc w (Obj.cells #[.int .i64 p, .int .i64 m.kind, .int .i64 m.frm, .int .i64 m.tto, .int .i64 m.line, .int .i64 m.op, .int .i64 m.num, .float .f64 m.flt, .string m.text, .slice m.na m.nn m.nc, .slice m.ka m.nk m.kc, .slice kk kn kc] 105)
  have bc := B.cell
  have a_bare := as_bare_no (t := 105) (by decide)
  have a_rest := as_rest_no (t := 105) (by decide)
  have a_int := as_int_no (t := 105) (by decide)
  have a_flt := as_flt_no (t := 105) (by decide)
  have a_str := as_str_yes
  go_enter Try.func28, Try.ntmps28
  go_wp2_with fail
  refine (usesOnly_any m p kk kn kc 8 _ false false false true false (by simp)).mono ?_
  rintro e w1 ⟨rfl, hb⟩
  replace B := B.onw hb
  replace O := O.trans hb
  clear hb bc
  have bc := B.cell
  cases h0 : usesP m.toPD false false false true false
  · go_wp2_with fail
    go_ret
    exact ⟨ret_bool (by first | rfl | (rw [h0]; rfl) | (rw [h0, h1]; rfl) | (rw [h0, h1, h2]; rfl) | (rw [h0, h1, h2, h3]; rfl) | (rw [h0, h9]; rfl) | (simp [*]; done) | (simp_all; done)), O⟩
  · by_cases c1 : (m.text.size : Int) ≤ 4000
    · have h1 : decide ((m.text.size : Int) ≤ 4000) = true := decide_eq_true c1
      go_wp2_with fail
      refine (kidsAre_any m p kk kn kc q none 0 0 (classF []) _ hn (hk.onw O) (fun h => absurd h (Nat.not_lt_zero _))).mono ?_
      rintro e w2 ⟨rfl, hb⟩
      replace B := B.onw hb
      replace O := O.trans hb
      clear hb bc
      have bc := B.cell
      go_wp2_with fail
      go_ret
      exact ⟨ret_bool (by first | rfl | (rw [h0]; rfl) | (rw [h0, h1]; rfl) | (rw [h0, h1, h2]; rfl) | (rw [h0, h1, h2, h3]; rfl) | (rw [h0, h9]; rfl) | (simp [*]; done) | (simp_all; done)), O⟩
    · have h1 : decide ((m.text.size : Int) ≤ 4000) = false := decide_eq_false c1
      go_wp2_with fail
      go_ret
      exact ⟨ret_bool (by first | rfl | (rw [h0]; rfl) | (rw [h0, h1]; rfl) | (rw [h0, h1, h2]; rfl) | (rw [h0, h1, h2, h3]; rfl) | (rw [h0, h9]; rfl) | (simp [*]; done) | (simp_all; done)), O⟩

set_option maxRecDepth 100000 in
set_option maxHeartbeats 4000000 in
theorem ef_name (m : PM) (p : Int) (kk : Option Addr) (kn kc : Nat) (q : Nat → Option PX) (w : World) (hn : kn ≤ 1048576) (hk : ValsAt w kk kn (fun j => pv (q j))) (hkc : kn ≤ kc) (hnn : m.nn ≤ 1048576) (hz : ∀ i, i < m.nn → (m.nm i).size ≤ 1048576) (htx : m.text.size ≤ 1048576) (hm : StrsAt w m.na m.nn m.nm) :
    Calls Try.prog 28 #[.iface 106 (.agg #[.int .i64 p, .int .i64 m.kind, .int .i64 m.frm, .int .i64 m.tto, .int .i64 m.line, .int .i64 m.op, .int .i64 m.num, .float .f64 m.flt, .string m.text, .slice m.na m.nn m.nc, .slice m.ka m.nk m.kc, .slice kk kn kc])] w fun e w' => e = .returned (.bool (usesP m.toPD false false false true false && (nameB m.text && (kidsR [] kn q)))) ∧ Onw w w' := by
  have _use := And.intro hkc (And.intro hnn (And.intro hz (And.intro htx (And.intro hm (And.intro hn hk)))))
  clear _use
  have B := Blk.new w 106 #[.int .i64 p, .int .i64 m.kind, .int .i64 m.frm, .int .i64 m.tto, .int .i64 m.line, .int .i64 m.op, .int .i64 m.num, .float .f64 m.flt, .string m.text, .slice m.na m.nn m.nc, .slice m.ka m.nk m.kc, .slice kk kn kc]
  have O := Onw.alloc w (Obj.cells #[.int .i64 p, .int .i64 m.kind, .int .i64 m.frm, .int .i64 m.tto, .int .i64 m.line, .int .i64 m.op, .int .i64 m.num, .float .f64 m.flt, .string m.text, .slice m.na m.nn m.nc, .slice m.ka m.nk m.kc, .slice kk kn kc] 106)
  have bc := B.cell
  have a_bare := as_bare_no (t := 106) (by decide)
  have a_rest := as_rest_no (t := 106) (by decide)
  have a_int := as_int_no (t := 106) (by decide)
  have a_flt := as_flt_no (t := 106) (by decide)
  have a_str := as_str_no (t := 106) (by decide)
  have a_name := as_name_yes
  go_enter Try.func28, Try.ntmps28
  go_wp2_with fail
  refine (usesOnly_any m p kk kn kc 8 _ false false false true false (by simp)).mono ?_
  rintro e w1 ⟨rfl, hb⟩
  replace B := B.onw hb
  replace O := O.trans hb
  clear hb bc
  have bc := B.cell
  cases h0 : usesP m.toPD false false false true false
  · go_wp2_with fail
    go_ret
    exact ⟨ret_bool (by first | rfl | (rw [h0]; rfl) | (rw [h0, h1]; rfl) | (rw [h0, h1, h2]; rfl) | (rw [h0, h1, h2, h3]; rfl) | (rw [h0, h9]; rfl) | (simp [*]; done) | (simp_all; done)), O⟩
  · go_wp2_with fail
    refine (isName_any _ _ htx).mono ?_
    rintro e v1 ⟨rfl, rfl⟩
    cases h1 : nameB m.text
    · go_wp2_with fail
      go_ret
      exact ⟨ret_bool (by first | rfl | (rw [h0]; rfl) | (rw [h0, h1]; rfl) | (rw [h0, h1, h2]; rfl) | (rw [h0, h1, h2, h3]; rfl) | (rw [h0, h9]; rfl) | (simp [*]; done) | (simp_all; done)), O⟩
    · go_wp2_with fail
      refine (kidsAre_any m p kk kn kc q none 0 0 (classF []) _ hn (hk.onw O) (fun h => absurd h (Nat.not_lt_zero _))).mono ?_
      rintro e w3 ⟨rfl, hb⟩
      replace B := B.onw hb
      replace O := O.trans hb
      clear hb bc
      have bc := B.cell
      go_wp2_with fail
      go_ret
      exact ⟨ret_bool (by first | rfl | (rw [h0]; rfl) | (rw [h0, h1]; rfl) | (rw [h0, h1, h2]; rfl) | (rw [h0, h1, h2, h3]; rfl) | (rw [h0, h9]; rfl) | (simp [*]; done) | (simp_all; done)), O⟩

set_option maxRecDepth 100000 in
set_option maxHeartbeats 4000000 in
theorem ef_field (m : PM) (p : Int) (kk : Option Addr) (kn kc : Nat) (q : Nat → Option PX) (w : World) (hn : kn ≤ 1048576) (hk : ValsAt w kk kn (fun j => pv (q j))) (hkc : kn ≤ kc) (hnn : m.nn ≤ 1048576) (hz : ∀ i, i < m.nn → (m.nm i).size ≤ 1048576) (htx : m.text.size ≤ 1048576) (hm : StrsAt w m.na m.nn m.nm) :
    Calls Try.prog 28 #[.iface 111 (.agg #[.int .i64 p, .int .i64 m.kind, .int .i64 m.frm, .int .i64 m.tto, .int .i64 m.line, .int .i64 m.op, .int .i64 m.num, .float .f64 m.flt, .string m.text, .slice m.na m.nn m.nc, .slice m.ka m.nk m.kc, .slice kk kn kc])] w fun e w' => e = .returned (.bool (usesP m.toPD false false false true false && (nameB m.text && (kidsR [16] kn q)))) ∧ Onw w w' := by
  have _use := And.intro hkc (And.intro hnn (And.intro hz (And.intro htx (And.intro hm (And.intro hn hk)))))
  clear _use
  have B := Blk.new w 111 #[.int .i64 p, .int .i64 m.kind, .int .i64 m.frm, .int .i64 m.tto, .int .i64 m.line, .int .i64 m.op, .int .i64 m.num, .float .f64 m.flt, .string m.text, .slice m.na m.nn m.nc, .slice m.ka m.nk m.kc, .slice kk kn kc]
  have O := Onw.alloc w (Obj.cells #[.int .i64 p, .int .i64 m.kind, .int .i64 m.frm, .int .i64 m.tto, .int .i64 m.line, .int .i64 m.op, .int .i64 m.num, .float .f64 m.flt, .string m.text, .slice m.na m.nn m.nc, .slice m.ka m.nk m.kc, .slice kk kn kc] 111)
  have bc := B.cell
  have a_bare := as_bare_no (t := 111) (by decide)
  have a_rest := as_rest_no (t := 111) (by decide)
  have a_int := as_int_no (t := 111) (by decide)
  have a_flt := as_flt_no (t := 111) (by decide)
  have a_str := as_str_no (t := 111) (by decide)
  have a_name := as_name_no (t := 111) (by decide)
  have a_either := as_either_no (t := 111) (by decide)
  have a_unary := as_unary_no (t := 111) (by decide)
  have a_binary := as_binary_no (t := 111) (by decide)
  have a_index := as_index_no (t := 111) (by decide)
  have a_field := as_field_yes
  go_enter Try.func28, Try.ntmps28
  go_wp2_with fail
  refine (usesOnly_any m p kk kn kc 8 _ false false false true false (by simp)).mono ?_
  rintro e w1 ⟨rfl, hb⟩
  replace B := B.onw hb
  replace O := O.trans hb
  clear hb bc
  have bc := B.cell
  cases h0 : usesP m.toPD false false false true false
  · go_wp2_with fail
    go_ret
    exact ⟨ret_bool (by first | rfl | (rw [h0]; rfl) | (rw [h0, h1]; rfl) | (rw [h0, h1, h2]; rfl) | (rw [h0, h1, h2, h3]; rfl) | (rw [h0, h9]; rfl) | (simp [*]; done) | (simp_all; done)), O⟩
  · go_wp2_with fail
    refine (isName_any _ _ htx).mono ?_
    rintro e v1 ⟨rfl, rfl⟩
    cases h1 : nameB m.text
    · go_wp2_with fail
      go_ret
      exact ⟨ret_bool (by first | rfl | (rw [h0]; rfl) | (rw [h0, h1]; rfl) | (rw [h0, h1, h2]; rfl) | (rw [h0, h1, h2, h3]; rfl) | (rw [h0, h9]; rfl) | (simp [*]; done) | (simp_all; done)), O⟩
    · go_wp2_with fail
      refine (kidsAre_any m p kk kn kc q _ 1 _ (classF [16]) _ hn (hk.onw (O.trans (Onw.alloc _ _))) (by exact lay1 _ _ 16)).mono ?_
      rintro e w3 ⟨rfl, hb⟩
      replace hb := (Onw.alloc _ _).trans hb
      replace B := B.onw hb
      replace O := O.trans hb
      clear hb bc
      have bc := B.cell
      go_wp2_with fail
      go_ret
      exact ⟨ret_bool (by first | rfl | (rw [h0]; rfl) | (rw [h0, h1]; rfl) | (rw [h0, h1, h2]; rfl) | (rw [h0, h1, h2, h3]; rfl) | (rw [h0, h9]; rfl) | (simp [*]; done) | (simp_all; done)), O⟩

end Go.Proofs.Ytnokgdgikdgaeaa
