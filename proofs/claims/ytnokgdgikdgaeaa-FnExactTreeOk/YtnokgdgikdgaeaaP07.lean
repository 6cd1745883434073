import Derived.Test.YtnokgdgikdgaeaaP06
namespace Go.Proofs.Ytnokgdgikdgaeaa
open Go.RowKit
attribute [local go_sem] run_store_float

set_option maxRecDepth 100000 in
set_option maxHeartbeats 4000000 in
theorem sf_block (m : PM) (p : Int) (kk : Option Addr) (kn kc : Nat) (q : Nat → Option PX) (w : World) (hn : kn ≤ 1048576) (hk : ValsAt w kk kn (fun j => pv (q j))) (hkc : kn ≤ kc) (hnn : m.nn ≤ 1048576) (hz : ∀ i, i < m.nn → (m.nm i).size ≤ 1048576) (htx : m.text.size ≤ 1048576) (hm : StrsAt w m.na m.nn m.nm) :
    Calls Try.prog 27 #[.iface 81 (.agg #[.int .i64 p, .int .i64 m.kind, .int .i64 m.frm, .int .i64 m.tto, .int .i64 m.line, .int .i64 m.op, .int .i64 m.num, .float .f64 m.flt, .string m.text, .slice m.na m.nn m.nc, .slice m.ka m.nk m.kc, .slice kk kn kc])] w fun e w' => e = .returned (.bool (usesP m.toPD false false false false false && (standR 1 kn q))) ∧ Onw w w' := by
  have _use := And.intro hkc (And.intro hnn (And.intro hz (And.intro htx (And.intro hm (And.intro hn hk)))))
  clear _use
  have B := Blk.new w 81 #[.int .i64 p, .int .i64 m.kind, .int .i64 m.frm, .int .i64 m.tto, .int .i64 m.line, .int .i64 m.op, .int .i64 m.num, .float .f64 m.flt, .string m.text, .slice m.na m.nn m.nc, .slice m.ka m.nk m.kc, .slice kk kn kc]
  have O := Onw.alloc w (Obj.cells #[.int .i64 p, .int .i64 m.kind, .int .i64 m.frm, .int .i64 m.tto, .int .i64 m.line, .int .i64 m.op, .int .i64 m.num, .float .f64 m.flt, .string m.text, .slice m.na m.nn m.nc, .slice m.ka m.nk m.kc, .slice kk kn kc] 81)
  have bc := B.cell
  have a_block := as_block_yes
  go_enter Try.func27, Try.ntmps27
  go_wp2_with fail
  refine (usesOnly_any m p kk kn kc 0 _ false false false false false (by simp)).mono ?_
  rintro e w1 ⟨rfl, hb⟩
  replace B := B.onw hb
  replace O := O.trans hb
  clear hb bc
  have bc := B.cell
  cases h0 : usesP m.toPD false false false false false
  · go_wp2_with fail
    go_ret
    exact ⟨ret_bool (by first | rfl | (rw [h0]; rfl) | (rw [h0, h1]; rfl) | (rw [h0, h1, h2]; rfl) | (rw [h0, h1, h2, h3]; rfl) | (rw [h0, h9]; rfl) | (simp [*]; done) | (simp_all; done)), O⟩
  · go_wp2_with fail
    refine (standAs_any _ _ _ q 1 _ hn (hk.onw O)).mono ?_
    rintro e w2 ⟨rfl, hb⟩
    replace B := B.onw hb
    replace O := O.trans hb
    clear hb bc
    have bc := B.cell
    go_wp2_with fail
    go_ret
    exact ⟨ret_bool (by first | rfl | (rw [h0]; rfl) | (rw [h0, h1]; rfl) | (rw [h0, h1, h2]; rfl) | (rw [h0, h1, h2, h3]; rfl) | (rw [h0, h9]; rfl) | (simp [*]; done) | (simp_all; done)), O⟩

set_option maxRecDepth 100000 in
set_option maxHeartbeats 4000000 in
theorem sf_let (m : PM) (p : Int) (kk : Option Addr) (kn kc : Nat) (q : Nat → Option PX) (w : World) (hn : kn ≤ 1048576) (hk : ValsAt w kk kn (fun j => pv (q j))) (hkc : kn ≤ kc) (hnn : m.nn ≤ 1048576) (hz : ∀ i, i < m.nn → (m.nm i).size ≤ 1048576) (htx : m.text.size ≤ 1048576) (hm : StrsAt w m.na m.nn m.nm) :
    Calls Try.prog 27 #[.iface 84 (.agg #[.int .i64 p, .int .i64 m.kind, .int .i64 m.frm, .int .i64 m.tto, .int .i64 m.line, .int .i64 m.op, .int .i64 m.num, .float .f64 m.flt, .string m.text, .slice m.na m.nn m.nc, .slice m.ka m.nk m.kc, .slice kk kn kc])] w fun e w' => e = .returned (.bool (declP m.toPD 1 200 && (standR 8 kn q))) ∧ Onw w w' := by
  have _use := And.intro hkc (And.intro hnn (And.intro hz (And.intro htx (And.intro hm (And.intro hn hk)))))
  clear _use
  have B := Blk.new w 84 #[.int .i64 p, .int .i64 m.kind, .int .i64 m.frm, .int .i64 m.tto, .int .i64 m.line, .int .i64 m.op, .int .i64 m.num, .float .f64 m.flt, .string m.text, .slice m.na m.nn m.nc, .slice m.ka m.nk m.kc, .slice kk kn kc]
  have O := Onw.alloc w (Obj.cells #[.int .i64 p, .int .i64 m.kind, .int .i64 m.frm, .int .i64 m.tto, .int .i64 m.line, .int .i64 m.op, .int .i64 m.num, .float .f64 m.flt, .string m.text, .slice m.na m.nn m.nc, .slice m.ka m.nk m.kc, .slice kk kn kc] 84)
  have bc := B.cell
  have a_block := as_block_no (t := 84) (by decide)
  have a_let := as_let_yes
  go_enter Try.func27, Try.ntmps27
  go_wp2_with fail
  refine (declares_any m p kk kn kc 1 200 _ hnn hz (hm.onw O)).mono ?_
  rintro e w1 ⟨rfl, hb⟩
  replace B := B.onw hb
  replace O := O.trans hb
  clear hb bc
  have bc := B.cell
  rw [declP_eq]
  cases h0 : declP m.toPD 1 200
  · go_wp2_with fail
    go_ret
    exact ⟨ret_bool (by first | rfl | (rw [h0]; rfl) | (rw [h0, h1]; rfl) | (rw [h0, h1, h2]; rfl) | (rw [h0, h1, h2, h3]; rfl) | (rw [h0, h9]; rfl) | (simp [*]; done) | (simp_all; done)), O⟩
  · go_wp2_with fail
    refine (standAs_any _ _ _ q 8 _ hn (hk.onw O)).mono ?_
    rintro e w2 ⟨rfl, hb⟩
    replace B := B.onw hb
    replace O := O.trans hb
    clear hb bc
    have bc := B.cell
    go_wp2_with fail
    go_ret
    exact ⟨ret_bool (by first | rfl | (rw [h0]; rfl) | (rw [h0, h1]; rfl) | (rw [h0, h1, h2]; rfl) | (rw [h0, h1, h2, h3]; rfl) | (rw [h0, h9]; rfl) | (simp [*]; done) | (simp_all; done)), O⟩

set_option maxRecDepth 100000 in
set_option maxHeartbeats 4000000 in
theorem sf_const (m : PM) (p : Int) (kk : Option Addr) (kn kc : Nat) (q : Nat → Option PX) (w : World) (hn : kn ≤ 1048576) (hk : ValsAt w kk kn (fun j => pv (q j))) (hkc : kn ≤ kc) (hnn : m.nn ≤ 1048576) (hz : ∀ i, i < m.nn → (m.nm i).size ≤ 1048576) (htx : m.text.size ≤ 1048576) (hm : StrsAt w m.na m.nn m.nm) :
    Calls Try.prog 27 #[.iface 85 (.agg #[.int .i64 p, .int .i64 m.kind, .int .i64 m.frm, .int .i64 m.tto, .int .i64 m.line, .int .i64 m.op, .int .i64 m.num, .float .f64 m.flt, .string m.text, .slice m.na m.nn m.nc, .slice m.ka m.nk m.kc, .slice kk kn kc])] w fun e w' => e = .returned (.bool (declP m.toPD 1 1 && (kidsR [8] kn q))) ∧ Onw w w' := by
  have _use := And.intro hkc (And.intro hnn (And.intro hz (And.intro htx (And.intro hm (And.intro hn hk)))))
  clear _use
  have B := Blk.new w 85 #[.int .i64 p, .int .i64 m.kind, .int .i64 m.frm, .int .i64 m.tto, .int .i64 m.line, .int .i64 m.op, .int .i64 m.num, .float .f64 m.flt, .string m.text, .slice m.na m.nn m.nc, .slice m.ka m.nk m.kc, .slice kk kn kc]
  have O := Onw.alloc w (Obj.cells #[.int .i64 p, .int .i64 m.kind, .int .i64 m.frm, .int .i64 m.tto, .int .i64 m.line, .int .i64 m.op, .int .i64 m.num, .float .f64 m.flt, .string m.text, .slice m.na m.nn m.nc, .slice m.ka m.nk m.kc, .slice kk kn kc] 85)
  have bc := B.cell
  have a_block := as_block_no (t := 85) (by decide)
  have a_let := as_let_no (t := 85) (by decide)
  have a_const := as_const_yes
  go_enter Try.func27, Try.ntmps27
  go_wp2_with fail
  refine (declares_any m p kk kn kc 1 1 _ hnn hz (hm.onw O)).mono ?_
  rintro e w1 ⟨rfl, hb⟩
  replace B := B.onw hb
  replace O := O.trans hb
  clear hb bc
  have bc := B.cell
  rw [declP_eq]
  cases h0 : declP m.toPD 1 1
  · go_wp2_with fail
    go_ret
    exact ⟨ret_bool (by first | rfl | (rw [h0]; rfl) | (rw [h0, h1]; rfl) | (rw [h0, h1, h2]; rfl) | (rw [h0, h1, h2, h3]; rfl) | (rw [h0, h9]; rfl) | (simp [*]; done) | (simp_all; done)), O⟩
  · go_wp2_with fail
    refine (kidsAre_any m p kk kn kc q _ 1 _ (classF [8]) _ hn (hk.onw (O.trans (Onw.alloc _ _))) (by exact lay1 _ _ 8)).mono ?_
    rintro e w2 ⟨rfl, hb⟩
    replace hb := (Onw.alloc _ _).trans hb
    replace B := B.onw hb
    replace O := O.trans hb
    clear hb bc
    have bc := B.cell
    go_wp2_with fail
    go_ret
    exact ⟨ret_bool (by first | rfl | (rw [h0]; rfl) | (rw [h0, h1]; rfl) | (rw [h0, h1, h2]; rfl) | (rw [h0, h1, h2, h3]; rfl) | (rw [h0, h9]; rfl) | (simp [*]; done) | (simp_all; done)), O⟩

set_option maxRecDepth 100000 in
set_option maxHeartbeats 4000000 in
theorem sf_ownFn (m : PM) (p : Int) (kk : Option Addr) (kn kc : Nat) (q : Nat → Option PX) (w : World) (hn : kn ≤ 1048576) (hk : ValsAt w kk kn (fun j => pv (q j))) (hkc : kn ≤ kc) (hnn : m.nn ≤ 1048576) (hz : ∀ i, i < m.nn → (m.nm i).size ≤ 1048576) (htx : m.text.size ≤ 1048576) (hm : StrsAt w m.na m.nn m.nm) :
    Calls Try.prog 27 #[.iface 87 (.agg #[.int .i64 p, .int .i64 m.kind, .int .i64 m.frm, .int .i64 m.tto, .int .i64 m.line, .int .i64 m.op, .int .i64 m.num, .float .f64 m.flt, .string m.text, .slice m.na m.nn m.nc, .slice m.ka m.nk m.kc, .slice kk kn kc])] w fun e w' => e = .returned (.bool (declP m.toPD 1 1 && (kidsR [256] kn q))) ∧ Onw w w' := by
  have _use := And.intro hkc (And.intro hnn (And.intro hz (And.intro htx (And.intro hm (And.intro hn hk)))))
  clear _use
  have B := Blk.new w 87 #[.int .i64 p, .int .i64 m.kind, .int .i64 m.frm, .int .i64 m.tto, .int .i64 m.line, .int .i64 m.op, .int .i64 m.num, .float .f64 m.flt, .string m.text, .slice m.na m.nn m.nc, .slice m.ka m.nk m.kc, .slice kk kn kc]
  have O := Onw.alloc w (Obj.cells #[.int .i64 p, .int .i64 m.kind, .int .i64 m.frm, .int .i64 m.tto, .int .i64 m.line, .int .i64 m.op, .int .i64 m.num, .float .f64 m.flt, .string m.text, .slice m.na m.nn m.nc, .slice m.ka m.nk m.kc, .slice kk kn kc] 87)
  have bc := B.cell
  have a_block := as_block_no (t := 87) (by decide)
  have a_let := as_let_no (t := 87) (by decide)
  have a_const := as_const_no (t := 87) (by decide)
  have a_ownFn := as_ownFn_yes
  go_enter Try.func27, Try.ntmps27
  go_wp2_with fail
  refine (declares_any m p kk kn kc 1 1 _ hnn hz (hm.onw O)).mono ?_
  rintro e w1 ⟨rfl, hb⟩
  replace B := B.onw hb
  replace O := O.trans hb
  clear hb bc
  have bc := B.cell
  rw [declP_eq]
  cases h0 : declP m.toPD 1 1
  · go_wp2_with fail
    go_ret
    exact ⟨ret_bool (by first | rfl | (rw [h0]; rfl) | (rw [h0, h1]; rfl) | (rw [h0, h1, h2]; rfl) | (rw [h0, h1, h2, h3]; rfl) | (rw [h0, h9]; rfl) | (simp [*]; done) | (simp_all; done)), O⟩
  · go_wp2_with fail
    refine (kidsAre_any m p kk kn kc q _ 1 _ (classF [256]) _ hn (hk.onw (O.trans (Onw.alloc _ _))) (by exact lay1 _ _ 256)).mono ?_
    rintro e w2 ⟨rfl, hb⟩
    replace hb := (Onw.alloc _ _).trans hb
    replace B := B.onw hb
    replace O := O.trans hb
    clear hb bc
    have bc := B.cell
    go_wp2_with fail
    go_ret
    exact ⟨ret_bool (by first | rfl | (rw [h0]; rfl) | (rw [h0, h1]; rfl) | (rw [h0, h1, h2]; rfl) | (rw [h0, h1, h2, h3]; rfl) | (rw [h0, h9]; rfl) | (simp [*]; done) | (simp_all; done)), O⟩

set_option maxRecDepth 100000 in
set_option maxHeartbeats 4000000 in
theorem sf_do (m : PM) (p : Int) (kk : Option Addr) (kn kc : Nat) (q : Nat → Option PX) (w : World) (hn : kn ≤ 1048576) (hk : ValsAt w kk kn (fun j => pv (q j))) (hkc : kn ≤ kc) (hnn : m.nn ≤ 1048576) (hz : ∀ i, i < m.nn → (m.nm i).size ≤ 1048576) (htx : m.text.size ≤ 1048576) (hm : StrsAt w m.na m.nn m.nm) :
    Calls Try.prog 27 #[.iface 90 (.agg #[.int .i64 p, .int .i64 m.kind, .int .i64 m.frm, .int .i64 m.tto, .int .i64 m.line, .int .i64 m.op, .int .i64 m.num, .float .f64 m.flt, .string m.text, .slice m.na m.nn m.nc, .slice m.ka m.nk m.kc, .slice kk kn kc])] w fun e w' => e = .returned (.bool (usesP m.toPD false false false false false && (kidsR [32] kn q))) ∧ Onw w w' := by
  have _use := And.intro hkc (And.intro hnn (And.intro hz (And.intro htx (And.intro hm (And.intro hn hk)))))
  clear _use
  have B := Blk.new w 90 #[.int .i64 p, .int .i64 m.kind, .int .i64 m.frm, .int .i64 m.tto, .int .i64 m.line, .int .i64 m.op, .int .i64 m.num, .float .f64 m.flt, .string m.text, .slice m.na m.nn m.nc, .slice m.ka m.nk m.kc, .slice kk kn kc]
  have O := Onw.alloc w (Obj.cells #[.int .i64 p, .int .i64 m.kind, .int .i64 m.frm, .int .i64 m.tto, .int .i64 m.line, .int .i64 m.op, .int .i64 m.num, .float .f64 m.flt, .string m.text, .slice m.na m.nn m.nc, .slice m.ka m.nk m.kc, .slice kk kn kc] 90)
  have bc := B.cell
  have a_block := as_block_no (t := 90) (by decide)
  have a_let := as_let_no (t := 90) (by decide)
  have a_const := as_const_no (t := 90) (by decide)
  have a_ownFn := as_ownFn_no (t := 90) (by decide)
  have a_set := as_set_no (t := 90) (by decide)
  have a_do := as_do_yes
  go_enter Try.func27, Try.ntmps27
  go_wp2_with fail
  refine (usesOnly_any m p kk kn kc 0 _ false false false false false (by simp)).mono ?_
  rintro e w1 ⟨rfl, hb⟩
  replace B := B.onw hb
  replace O := O.trans hb
  clear hb bc
  have bc := B.cell
  cases h0 : usesP m.toPD false false false false false
  · go_wp2_with fail
    go_ret
    exact ⟨ret_bool (by first | rfl | (rw [h0]; rfl) | (rw [h0, h1]; rfl) | (rw [h0, h1, h2]; rfl) | (rw [h0, h1, h2, h3]; rfl) | (rw [h0, h9]; rfl) | (simp [*]; done) | (simp_all; done)), O⟩
  · go_wp2_with fail
    refine (kidsAre_any m p kk kn kc q _ 1 _ (classF [32]) _ hn (hk.onw (O.trans (Onw.alloc _ _))) (by exact lay1 _ _ 32)).mono ?_
    rintro e w2 ⟨rfl, hb⟩
    replace hb := (Onw.alloc _ _).trans hb
    replace B := B.onw hb
    replace O := O.trans hb
    clear hb bc
    have bc := B.cell
    go_wp2_with fail
    go_ret
    exact ⟨ret_bool (by first | rfl | (rw [h0]; rfl) | (rw [h0, h1]; rfl) | (rw [h0, h1, h2]; rfl) | (rw [h0, h1, h2, h3]; rfl) | (rw [h0, h9]; rfl) | (simp [*]; done) | (simp_all; done)), O⟩

end Go.Proofs.Ytnokgdgikdgaeaa

namespace Go.Proofs.Ytnokgdgikdgaeaa
open Go.RowKit
attribute [local go_sem] run_store_float

set_option maxRecDepth 100000 in
set_option maxHeartbeats 4000000 in
theorem sf_if (m : PM) (p : Int) (kk : Option Addr) (kn kc : Nat) (q : Nat → Option PX) (w : World) (hn : kn ≤ 1048576) (hk : ValsAt w kk kn (fun j => pv (q j))) (hkc : kn ≤ kc) (hnn : m.nn ≤ 1048576) (hz : ∀ i, i < m.nn → (m.nm i).size ≤ 1048576) (htx : m.text.size ≤ 1048576) (hm : StrsAt w m.na m.nn m.nm) :
    Calls Try.prog 27 #[.iface 91 (.agg #[.int .i64 p, .int .i64 m.kind, .int .i64 m.frm, .int .i64 m.tto, .int .i64 m.line, .int .i64 m.op, .int .i64 m.num, .float .f64 m.flt, .string m.text, .slice m.na m.nn m.nc, .slice m.ka m.nk m.kc, .slice kk kn kc])] w fun e w' => e = .returned (.bool (usesP m.toPD false false false false false && ((kidsR [8, 2] kn q || kidsR [8, 2, 4] kn q)))) ∧ Onw w w' := by
  have _use := And.intro hkc (And.intro hnn (And.intro hz (And.intro htx (And.intro hm (And.intro hn hk)))))
  clear _use
  have B := Blk.new w 91 #[.int .i64 p, .int .i64 m.kind, .int .i64 m.frm, .int .i64 m.tto, .int .i64 m.line, .int .i64 m.op, .int .i64 m.num, .float .f64 m.flt, .string m.text, .slice m.na m.nn m.nc, .slice m.ka m.nk m.kc, .slice kk kn kc]
  have O := Onw.alloc w (Obj.cells #[.int .i64 p, .int .i64 m.kind, .int .i64 m.frm, .int .i64 m.tto, .int .i64 m.line, .int .i64 m.op, .int .i64 m.num, .float .f64 m.flt, .string m.text, .slice m.na m.nn m.nc, .slice m.ka m.nk m.kc, .slice kk kn kc] 91)
  have bc := B.cell
  have a_block := as_block_no (t := 91) (by decide)
  have a_let := as_let_no (t := 91) (by decide)
  have a_const := as_const_no (t := 91) (by decide)
  have a_ownFn := as_ownFn_no (t := 91) (by decide)
  have a_set := as_set_no (t := 91) (by decide)
  have a_do := as_do_no (t := 91) (by decide)
  have a_if := as_if_yes
  go_enter Try.func27, Try.ntmps27
  go_wp2_with fail
  refine (usesOnly_any m p kk kn kc 0 _ false false false false false (by simp)).mono ?_
  rintro e w1 ⟨rfl, hb⟩
  replace B := B.onw hb
  replace O := O.trans hb
  clear hb bc
  have bc := B.cell
  cases h0 : usesP m.toPD false false false false false
  · go_wp2_with fail
    go_ret
    exact ⟨ret_bool (by first | rfl | (rw [h0]; rfl) | (rw [h0, h1]; rfl) | (rw [h0, h1, h2]; rfl) | (rw [h0, h1, h2, h3]; rfl) | (rw [h0, h9]; rfl) | (simp [*]; done) | (simp_all; done)), O⟩
  · go_wp2_with fail
    refine (kidsAre_any m p kk kn kc q _ 2 _ (classF [8, 2]) _ hn (hk.onw (O.trans (Onw.alloc _ _))) (by exact lay2 _ _ 8 2)).mono ?_
    rintro e v0 ⟨rfl, hb⟩
    replace hb := (Onw.alloc _ _).trans hb
    replace B := B.onw hb
    replace O := O.trans hb
    clear hb bc
    have bc := B.cell
    have hE : Hid (((kn : Int) == ((2 : Nat) : Int) && allB (fun i => hasR (roleO (q i)) (classF [8, 2] i)) 0 2) = kidsR [8, 2] kn q) := rfl
    rw [hE.out]
    clear hE
    cases h9 : kidsR [8, 2] kn q
    rotate_left
    · go_wp2_with fail
      go_ret
      exact ⟨ret_bool (by first | rfl | (rw [h0]; rfl) | (rw [h0, h1]; rfl) | (rw [h0, h1, h2]; rfl) | (rw [h0, h1, h2, h3]; rfl) | (rw [h0, h9]; rfl) | (simp [*]; done) | (simp_all; done)), O⟩
    go_wp2_with fail
    refine (kidsAre_any m p kk kn kc q _ 3 _ (classF [8, 2, 4]) _ hn (hk.onw (O.trans (Onw.alloc _ _))) (by exact lay3 _ _ 8 2 4)).mono ?_
    rintro e v1 ⟨rfl, hb⟩
    replace hb := (Onw.alloc _ _).trans hb
    replace B := B.onw hb
    replace O := O.trans hb
    clear hb bc
    have bc := B.cell
    have hE : Hid (((kn : Int) == ((3 : Nat) : Int) && allB (fun i => hasR (roleO (q i)) (classF [8, 2, 4] i)) 0 3) = kidsR [8, 2, 4] kn q) := rfl
    rw [hE.out]
    clear hE
    go_wp2_with fail
    go_ret
    exact ⟨ret_bool (by first | rfl | (rw [h0]; rfl) | (rw [h0, h1]; rfl) | (rw [h0, h1, h2]; rfl) | (rw [h0, h1, h2, h3]; rfl) | (rw [h0, h9]; rfl) | (simp [*]; done) | (simp_all; done)), O⟩

set_option maxRecDepth 100000 in
set_option maxHeartbeats 4000000 in
theorem sf_while (m : PM) (p : Int) (kk : Option Addr) (kn kc : Nat) (q : Nat → Option PX) (w : World) (hn : kn ≤ 1048576) (hk : ValsAt w kk kn (fun j => pv (q j))) (hkc : kn ≤ kc) (hnn : m.nn ≤ 1048576) (hz : ∀ i, i < m.nn → (m.nm i).size ≤ 1048576) (htx : m.text.size ≤ 1048576) (hm : StrsAt w m.na m.nn m.nm) :
    Calls Try.prog 27 #[.iface 92 (.agg #[.int .i64 p, .int .i64 m.kind, .int .i64 m.frm, .int .i64 m.tto, .int .i64 m.line, .int .i64 m.op, .int .i64 m.num, .float .f64 m.flt, .string m.text, .slice m.na m.nn m.nc, .slice m.ka m.nk m.kc, .slice kk kn kc])] w fun e w' => e = .returned (.bool (usesP m.toPD false false false false false && (kidsR [8, 2] kn q))) ∧ Onw w w' := by
  have _use := And.intro hkc (And.intro hnn (And.intro hz (And.intro htx (And.intro hm (And.intro hn hk)))))
  clear _use
  have B := Blk.new w 92 #[.int .i64 p, .int .i64 m.kind, .int .i64 m.frm, .int .i64 m.tto, .int .i64 m.line, .int .i64 m.op, .int .i64 m.num, .float .f64 m.flt, .string m.text, .slice m.na m.nn m.nc, .slice m.ka m.nk m.kc, .slice kk kn kc]
  have O := Onw.alloc w (Obj.cells #[.int .i64 p, .int .i64 m.kind, .int .i64 m.frm, .int .i64 m.tto, .int .i64 m.line, .int .i64 m.op, .int .i64 m.num, .float .f64 m.flt, .string m.text, .slice m.na m.nn m.nc, .slice m.ka m.nk m.kc, .slice kk kn kc] 92)
  have bc := B.cell
  have a_block := as_block_no (t := 92) (by decide)
  have a_let := as_let_no (t := 92) (by decide)
  have a_const := as_const_no (t := 92) (by decide)
  have a_ownFn := as_ownFn_no (t := 92) (by decide)
  have a_set := as_set_no (t := 92) (by decide)
  have a_do := as_do_no (t := 92) (by decide)
  have a_if := as_if_no (t := 92) (by decide)
  have a_while := as_while_yes
  go_enter Try.func27, Try.ntmps27
  go_wp2_with fail
  refine (usesOnly_any m p kk kn kc 0 _ false false false false false (by simp)).mono ?_
  rintro e w1 ⟨rfl, hb⟩
  replace B := B.onw hb
  replace O := O.trans hb
  clear hb bc
  have bc := B.cell
  cases h0 : usesP m.toPD false false false false false
  · go_wp2_with fail
    go_ret
    exact ⟨ret_bool (by first | rfl | (rw [h0]; rfl) | (rw [h0, h1]; rfl) | (rw [h0, h1, h2]; rfl) | (rw [h0, h1, h2, h3]; rfl) | (rw [h0, h9]; rfl) | (simp [*]; done) | (simp_all; done)), O⟩
  · go_wp2_with fail
    refine (kidsAre_any m p kk kn kc q _ 2 _ (classF [8, 2]) _ hn (hk.onw (O.trans (Onw.alloc _ _))) (by exact lay2 _ _ 8 2)).mono ?_
    rintro e w2 ⟨rfl, hb⟩
    replace hb := (Onw.alloc _ _).trans hb
    replace B := B.onw hb
    replace O := O.trans hb
    clear hb bc
    have bc := B.cell
    go_wp2_with fail
    go_ret
    exact ⟨ret_bool (by first | rfl | (rw [h0]; rfl) | (rw [h0, h1]; rfl) | (rw [h0, h1, h2]; rfl) | (rw [h0, h1, h2, h3]; rfl) | (rw [h0, h9]; rfl) | (simp [*]; done) | (simp_all; done)), O⟩

set_option maxRecDepth 100000 in
set_option maxHeartbeats 4000000 in
theorem sf_for (m : PM) (p : Int) (kk : Option Addr) (kn kc : Nat) (q : Nat → Option PX) (w : World) (hn : kn ≤ 1048576) (hk : ValsAt w kk kn (fun j => pv (q j))) (hkc : kn ≤ kc) (hnn : m.nn ≤ 1048576) (hz : ∀ i, i < m.nn → (m.nm i).size ≤ 1048576) (htx : m.text.size ≤ 1048576) (hm : StrsAt w m.na m.nn m.nm) :
    Calls Try.prog 27 #[.iface 93 (.agg #[.int .i64 p, .int .i64 m.kind, .int .i64 m.frm, .int .i64 m.tto, .int .i64 m.line, .int .i64 m.op, .int .i64 m.num, .float .f64 m.flt, .string m.text, .slice m.na m.nn m.nc, .slice m.ka m.nk m.kc, .slice kk kn kc])] w fun e w' => e = .returned (.bool (declP m.toPD 1 1 && ((kidsR [8, 8, 2] kn q || kidsR [8, 8, 8, 2] kn q)))) ∧ Onw w w' := by
  have _use := And.intro hkc (And.intro hnn (And.intro hz (And.intro htx (And.intro hm (And.intro hn hk)))))
  clear _use
  have B := Blk.new w 93 #[.int .i64 p, .int .i64 m.kind, .int .i64 m.frm, .int .i64 m.tto, .int .i64 m.line, .int .i64 m.op, .int .i64 m.num, .float .f64 m.flt, .string m.text, .slice m.na m.nn m.nc, .slice m.ka m.nk m.kc, .slice kk kn kc]
  have O := Onw.alloc w (Obj.cells #[.int .i64 p, .int .i64 m.kind, .int .i64 m.frm, .int .i64 m.tto, .int .i64 m.line, .int .i64 m.op, .int .i64 m.num, .float .f64 m.flt, .string m.text, .slice m.na m.nn m.nc, .slice m.ka m.nk m.kc, .slice kk kn kc] 93)
  have bc := B.cell
  have a_block := as_block_no (t := 93) (by decide)
  have a_let := as_let_no (t := 93) (by decide)
  have a_const := as_const_no (t := 93) (by decide)
  have a_ownFn := as_ownFn_no (t := 93) (by decide)
  have a_set := as_set_no (t := 93) (by decide)
  have a_do := as_do_no (t := 93) (by decide)
  have a_if := as_if_no (t := 93) (by decide)
  have a_while := as_while_no (t := 93) (by decide)
  have a_for := as_for_yes
  go_enter Try.func27, Try.ntmps27
  go_wp2_with fail
  refine (declares_any m p kk kn kc 1 1 _ hnn hz (hm.onw O)).mono ?_
  rintro e w1 ⟨rfl, hb⟩
  replace B := B.onw hb
  replace O := O.trans hb
  clear hb bc
  have bc := B.cell
  rw [declP_eq]
  cases h0 : declP m.toPD 1 1
  · go_wp2_with fail
    go_ret
    exact ⟨ret_bool (by first | rfl | (rw [h0]; rfl) | (rw [h0, h1]; rfl) | (rw [h0, h1, h2]; rfl) | (rw [h0, h1, h2, h3]; rfl) | (rw [h0, h9]; rfl) | (simp [*]; done) | (simp_all; done)), O⟩
  · go_wp2_with fail
    refine (kidsAre_any m p kk kn kc q _ 3 _ (classF [8, 8, 2]) _ hn (hk.onw (O.trans (Onw.alloc _ _))) (by exact lay3 _ _ 8 8 2)).mono ?_
    rintro e v0 ⟨rfl, hb⟩
    replace hb := (Onw.alloc _ _).trans hb
    replace B := B.onw hb
    replace O := O.trans hb
    clear hb bc
    have bc := B.cell
    have hE : Hid (((kn : Int) == ((3 : Nat) : Int) && allB (fun i => hasR (roleO (q i)) (classF [8, 8, 2] i)) 0 3) = kidsR [8, 8, 2] kn q) := rfl
    rw [hE.out]
    clear hE
    cases h9 : kidsR [8, 8, 2] kn q
    rotate_left
    · go_wp2_with fail
      go_ret
      exact ⟨ret_bool (by first | rfl | (rw [h0]; rfl) | (rw [h0, h1]; rfl) | (rw [h0, h1, h2]; rfl) | (rw [h0, h1, h2, h3]; rfl) | (rw [h0, h9]; rfl) | (simp [*]; done) | (simp_all; done)), O⟩
    go_wp2_with fail
    refine (kidsAre_any m p kk kn kc q _ 4 _ (classF [8, 8, 8, 2]) _ hn (hk.onw (O.trans (Onw.alloc _ _))) (by exact lay4 _ _ 8 8 8 2)).mono ?_
    rintro e v1 ⟨rfl, hb⟩
    replace hb := (Onw.alloc _ _).trans hb
    replace B := B.onw hb
    replace O := O.trans hb
    clear hb bc
    have bc := B.cell
    have hE : Hid (((kn : Int) == ((4 : Nat) : Int) && allB (fun i => hasR (roleO (q i)) (classF [8, 8, 8, 2] i)) 0 4) = kidsR [8, 8, 8, 2] kn q) := rfl
    rw [hE.out]
    clear hE
    go_wp2_with fail
    go_ret
    exact ⟨ret_bool (by first | rfl | (rw [h0]; rfl) | (rw [h0, h1]; rfl) | (rw [h0, h1, h2]; rfl) | (rw [h0, h1, h2, h3]; rfl) | (rw [h0, h9]; rfl) | (simp [*]; done) | (simp_all; done)), O⟩

end Go.Proofs.Ytnokgdgikdgaeaa

namespace Go.Proofs.Ytnokgdgikdgaeaa
open Go.RowKit
attribute [local go_sem] run_store_float

set_option maxRecDepth 100000 in
set_option maxHeartbeats 4000000 in
theorem sf_each (m : PM) (p : Int) (kk : Option Addr) (kn kc : Nat) (q : Nat → Option PX) (w : World) (hn : kn ≤ 1048576) (hk : ValsAt w kk kn (fun j => pv (q j))) (hkc : kn ≤ kc) (hnn : m.nn ≤ 1048576) (hz : ∀ i, i < m.nn → (m.nm i).size ≤ 1048576) (htx : m.text.size ≤ 1048576) (hm : StrsAt w m.na m.nn m.nm) :
    Calls Try.prog 27 #[.iface 94 (.agg #[.int .i64 p, .int .i64 m.kind, .int .i64 m.frm, .int .i64 m.tto, .int .i64 m.line, .int .i64 m.op, .int .i64 m.num, .float .f64 m.flt, .string m.text, .slice m.na m.nn m.nc, .slice m.ka m.nk m.kc, .slice kk kn kc])] w fun e w' => e = .returned (.bool (declP m.toPD 1 200 && (kidsR [8, 2] kn q))) ∧ Onw w w' := by
  have _use := And.intro hkc (And.intro hnn (And.intro hz (And.intro htx (And.intro hm (And.intro hn hk)))))
  clear _use
  have B := Blk.new w 94 #[.int .i64 p, .int .i64 m.kind, .int .i64 m.frm, .int .i64 m.tto, .int .i64 m.line, .int .i64 m.op, .int .i64 m.num, .float .f64 m.flt, .string m.text, .slice m.na m.nn m.nc, .slice m.ka m.nk m.kc, .slice kk kn kc]
  have O := Onw.alloc w (Obj.cells #[.int .i64 p, .int .i64 m.kind, .int .i64 m.frm, .int .i64 m.tto, .int .i64 m.line, .int .i64 m.op, .int .i64 m.num, .float .f64 m.flt, .string m.text, .slice m.na m.nn m.nc, .slice m.ka m.nk m.kc, .slice kk kn kc] 94)
  have bc := B.cell
  have a_block := as_block_no (t := 94) (by decide)
  have a_let := as_let_no (t := 94) (by decide)
  have a_const := as_const_no (t := 94) (by decide)
  have a_ownFn := as_ownFn_no (t := 94) (by decide)
  have a_set := as_set_no (t := 94) (by decide)
  have a_do := as_do_no (t := 94) (by decide)
  have a_if := as_if_no (t := 94) (by decide)
  have a_while := as_while_no (t := 94) (by decide)
  have a_for := as_for_no (t := 94) (by decide)
  have a_each := as_each_yes
  go_enter Try.func27, Try.ntmps27
  go_wp2_with fail
  refine (declares_any m p kk kn kc 1 200 _ hnn hz (hm.onw O)).mono ?_
  rintro e w1 ⟨rfl, hb⟩
  replace B := B.onw hb
  replace O := O.trans hb
  clear hb bc
  have bc := B.cell
  rw [declP_eq]
  cases h0 : declP m.toPD 1 200
  · go_wp2_with fail
    go_ret
    exact ⟨ret_bool (by first | rfl | (rw [h0]; rfl) | (rw [h0, h1]; rfl) | (rw [h0, h1, h2]; rfl) | (rw [h0, h1, h2, h3]; rfl) | (rw [h0, h9]; rfl) | (simp [*]; done) | (simp_all; done)), O⟩
  · go_wp2_with fail
    refine (kidsAre_any m p kk kn kc q _ 2 _ (classF [8, 2]) _ hn (hk.onw (O.trans (Onw.alloc _ _))) (by exact lay2 _ _ 8 2)).mono ?_
    rintro e w2 ⟨rfl, hb⟩
    replace hb := (Onw.alloc _ _).trans hb
    replace B := B.onw hb
    replace O := O.trans hb
    clear hb bc
    have bc := B.cell
    go_wp2_with fail
    go_ret
    exact ⟨ret_bool (by first | rfl | (rw [h0]; rfl) | (rw [h0, h1]; rfl) | (rw [h0, h1, h2]; rfl) | (rw [h0, h1, h2, h3]; rfl) | (rw [h0, h9]; rfl) | (simp [*]; done) | (simp_all; done)), O⟩

set_option maxRecDepth 100000 in
set_option maxHeartbeats 4000000 in
theorem sf_jump (m : PM) (p : Int) (kk : Option Addr) (kn kc : Nat) (q : Nat → Option PX) (w : World) (hn : kn ≤ 1048576) (hk : ValsAt w kk kn (fun j => pv (q j))) (hkc : kn ≤ kc) (hnn : m.nn ≤ 1048576) (hz : ∀ i, i < m.nn → (m.nm i).size ≤ 1048576) (htx : m.text.size ≤ 1048576) (hm : StrsAt w m.na m.nn m.nm) :
    Calls Try.prog 27 #[.iface 95 (.agg #[.int .i64 p, .int .i64 m.kind, .int .i64 m.frm, .int .i64 m.tto, .int .i64 m.line, .int .i64 m.op, .int .i64 m.num, .float .f64 m.flt, .string m.text, .slice m.na m.nn m.nc, .slice m.ka m.nk m.kc, .slice kk kn kc])] w fun e w' => e = .returned (.bool (usesP m.toPD false false false false false && (kidsR [] kn q))) ∧ Onw w w' := by
  have _use := And.intro hkc (And.intro hnn (And.intro hz (And.intro htx (And.intro hm (And.intro hn hk)))))
  clear _use
  have B := Blk.new w 95 #[.int .i64 p, .int .i64 m.kind, .int .i64 m.frm, .int .i64 m.tto, .int .i64 m.line, .int .i64 m.op, .int .i64 m.num, .float .f64 m.flt, .string m.text, .slice m.na m.nn m.nc, .slice m.ka m.nk m.kc, .slice kk kn kc]
  have O := Onw.alloc w (Obj.cells #[.int .i64 p, .int .i64 m.kind, .int .i64 m.frm, .int .i64 m.tto, .int .i64 m.line, .int .i64 m.op, .int .i64 m.num, .float .f64 m.flt, .string m.text, .slice m.na m.nn m.nc, .slice m.ka m.nk m.kc, .slice kk kn kc] 95)
  have bc := B.cell
  have a_block := as_block_no (t := 95) (by decide)
  have a_let := as_let_no (t := 95) (by decide)
  have a_const := as_const_no (t := 95) (by decide)
  have a_ownFn := as_ownFn_no (t := 95) (by decide)
  have a_set := as_set_no (t := 95) (by decide)
  have a_do := as_do_no (t := 95) (by decide)
  have a_if := as_if_no (t := 95) (by decide)
  have a_while := as_while_no (t := 95) (by decide)
  have a_for := as_for_no (t := 95) (by decide)
  have a_each := as_each_no (t := 95) (by decide)
  have a_jump := as_jump_yes
  go_enter Try.func27, Try.ntmps27
  go_wp2_with fail
  refine (usesOnly_any m p kk kn kc 0 _ false false false false false (by simp)).mono ?_
  rintro e w1 ⟨rfl, hb⟩
  replace B := B.onw hb
  replace O := O.trans hb
  clear hb bc
  have bc := B.cell
  cases h0 : usesP m.toPD false false false false false
  · go_wp2_with fail
    go_ret
    exact ⟨ret_bool (by first | rfl | (rw [h0]; rfl) | (rw [h0, h1]; rfl) | (rw [h0, h1, h2]; rfl) | (rw [h0, h1, h2, h3]; rfl) | (rw [h0, h9]; rfl) | (simp [*]; done) | (simp_all; done)), O⟩
  · go_wp2_with fail
    refine (kidsAre_any m p kk kn kc q none 0 0 (classF []) _ hn (hk.onw O) (fun h => absurd h (Nat.not_lt_zero _))).mono ?_
    rintro e w2 ⟨rfl, hb⟩
    replace B := B.onw hb
    replace O := O.trans hb
    clear hb bc
    have bc := B.cell
    go_wp2_with fail
    go_ret
    exact ⟨ret_bool (by first | rfl | (rw [h0]; rfl) | (rw [h0, h1]; rfl) | (rw [h0, h1, h2]; rfl) | (rw [h0, h1, h2, h3]; rfl) | (rw [h0, h9]; rfl) | (simp [*]; done) | (simp_all; done)), O⟩

set_option maxRecDepth 100000 in
set_option maxHeartbeats 4000000 in
theorem sf_return (m : PM) (p : Int) (kk : Option Addr) (kn kc : Nat) (q : Nat → Option PX) (w : World) (hn : kn ≤ 1048576) (hk : ValsAt w kk kn (fun j => pv (q j))) (hkc : kn ≤ kc) (hnn : m.nn ≤ 1048576) (hz : ∀ i, i < m.nn → (m.nm i).size ≤ 1048576) (htx : m.text.size ≤ 1048576) (hm : StrsAt w m.na m.nn m.nm) :
    Calls Try.prog 27 #[.iface 96 (.agg #[.int .i64 p, .int .i64 m.kind, .int .i64 m.frm, .int .i64 m.tto, .int .i64 m.line, .int .i64 m.op, .int .i64 m.num, .float .f64 m.flt, .string m.text, .slice m.na m.nn m.nc, .slice m.ka m.nk m.kc, .slice kk kn kc])] w fun e w' => e = .returned (.bool (usesP m.toPD false false false false false && (standR 8 kn q))) ∧ Onw w w' := by
  have _use := And.intro hkc (And.intro hnn (And.intro hz (And.intro htx (And.intro hm (And.intro hn hk)))))
  clear _use
  have B := Blk.new w 96 #[.int .i64 p, .int .i64 m.kind, .int .i64 m.frm, .int .i64 m.tto, .int .i64 m.line, .int .i64 m.op, .int .i64 m.num, .float .f64 m.flt, .string m.text, .slice m.na m.nn m.nc, .slice m.ka m.nk m.kc, .slice kk kn kc]
  have O := Onw.alloc w (Obj.cells #[.int .i64 p, .int .i64 m.kind, .int .i64 m.frm, .int .i64 m.tto, .int .i64 m.line, .int .i64 m.op, .int .i64 m.num, .float .f64 m.flt, .string m.text, .slice m.na m.nn m.nc, .slice m.ka m.nk m.kc, .slice kk kn kc] 96)
  have bc := B.cell
  have a_block := as_block_no (t := 96) (by decide)
  have a_let := as_let_no (t := 96) (by decide)
  have a_const := as_const_no (t := 96) (by decide)
  have a_ownFn := as_ownFn_no (t := 96) (by decide)
  have a_set := as_set_no (t := 96) (by decide)
  have a_do := as_do_no (t := 96) (by decide)
  have a_if := as_if_no (t := 96) (by decide)
  have a_while := as_while_no (t := 96) (by decide)
  have a_for := as_for_no (t := 96) (by decide)
  have a_each := as_each_no (t := 96) (by decide)
  have a_jump := as_jump_no (t := 96) (by decide)
  have a_return := as_return_yes
  go_enter Try.func27, Try.ntmps27
  go_wp2_with fail
  refine (usesOnly_any m p kk kn kc 0 _ false false false false false (by simp)).mono ?_
  rintro e w1 ⟨rfl, hb⟩
  replace B := B.onw hb
  replace O := O.trans hb
  clear hb bc
  have bc := B.cell
  cases h0 : usesP m.toPD false false false false false
  · go_wp2_with fail
    go_ret
    exact ⟨ret_bool (by first | rfl | (rw [h0]; rfl) | (rw [h0, h1]; rfl) | (rw [h0, h1, h2]; rfl) | (rw [h0, h1, h2, h3]; rfl) | (rw [h0, h9]; rfl) | (simp [*]; done) | (simp_all; done)), O⟩
  · go_wp2_with fail
    refine (standAs_any _ _ _ q 8 _ hn (hk.onw O)).mono ?_
    rintro e w2 ⟨rfl, hb⟩
    replace B := B.onw hb
    replace O := O.trans hb
    clear hb bc
    have bc := B.cell
    go_wp2_with fail
    go_ret
    exact ⟨ret_bool (by first | rfl | (rw [h0]; rfl) | (rw [h0, h1]; rfl) | (rw [h0, h1, h2]; rfl) | (rw [h0, h1, h2, h3]; rfl) | (rw [h0, h9]; rfl) | (simp [*]; done) | (simp_all; done)), O⟩

set_option maxRecDepth 100000 in
set_option maxHeartbeats 4000000 in
theorem sf_try (m : PM) (p : Int) (kk : Option Addr) (kn kc : Nat) (q : Nat → Option PX) (w : World) (hn : kn ≤ 1048576) (hk : ValsAt w kk kn (fun j => pv (q j))) (hkc : kn ≤ kc) (hnn : m.nn ≤ 1048576) (hz : ∀ i, i < m.nn → (m.nm i).size ≤ 1048576) (htx : m.text.size ≤ 1048576) (hm : StrsAt w m.na m.nn m.nm) :
    Calls Try.prog 27 #[.iface 97 (.agg #[.int .i64 p, .int .i64 m.kind, .int .i64 m.frm, .int .i64 m.tto, .int .i64 m.line, .int .i64 m.op, .int .i64 m.num, .float .f64 m.flt, .string m.text, .slice m.na m.nn m.nc, .slice m.ka m.nk m.kc, .slice kk kn kc])] w fun e w' => e = .returned (.bool (declP m.toPD 1 2 && (kidsR [2, 2] kn q))) ∧ Onw w w' := by
  have _use := And.intro hkc (And.intro hnn (And.intro hz (And.intro htx (And.intro hm (And.intro hn hk)))))
  clear _use
  have B := Blk.new w 97 #[.int .i64 p, .int .i64 m.kind, .int .i64 m.frm, .int .i64 m.tto, .int .i64 m.line, .int .i64 m.op, .int .i64 m.num, .float .f64 m.flt, .string m.text, .slice m.na m.nn m.nc, .slice m.ka m.nk m.kc, .slice kk kn kc]
  have O := Onw.alloc w (Obj.cells #[.int .i64 p, .int .i64 m.kind, .int .i64 m.frm, .int .i64 m.tto, .int .i64 m.line, .int .i64 m.op, .int .i64 m.num, .float .f64 m.flt, .string m.text, .slice m.na m.nn m.nc, .slice m.ka m.nk m.kc, .slice kk kn kc] 97)
  have bc := B.cell
  have a_block := as_block_no (t := 97) (by decide)
  have a_let := as_let_no (t := 97) (by decide)
  have a_const := as_const_no (t := 97) (by decide)
  have a_ownFn := as_ownFn_no (t := 97) (by decide)
  have a_set := as_set_no (t := 97) (by decide)
  have a_do := as_do_no (t := 97) (by decide)
  have a_if := as_if_no (t := 97) (by decide)
  have a_while := as_while_no (t := 97) (by decide)
  have a_for := as_for_no (t := 97) (by decide)
  have a_each := as_each_no (t := 97) (by decide)
  have a_jump := as_jump_no (t := 97) (by decide)
  have a_return := as_return_no (t := 97) (by decide)
  have a_try := as_try_yes
  go_enter Try.func27, Try.ntmps27
  go_wp2_with fail
  refine (declares_any m p kk kn kc 1 2 _ hnn hz (hm.onw O)).mono ?_
  rintro e w1 ⟨rfl, hb⟩
  replace B := B.onw hb
  replace O := O.trans hb
  clear hb bc
  have bc := B.cell
  rw [declP_eq]
  cases h0 : declP m.toPD 1 2
  · go_wp2_with fail
    go_ret
    exact ⟨ret_bool (by first | rfl | (rw [h0]; rfl) | (rw [h0, h1]; rfl) | (rw [h0, h1, h2]; rfl) | (rw [h0, h1, h2, h3]; rfl) | (rw [h0, h9]; rfl) | (simp [*]; done) | (simp_all; done)), O⟩
  · go_wp2_with fail
    refine (kidsAre_any m p kk kn kc q _ 2 _ (classF [2, 2]) _ hn (hk.onw (O.trans (Onw.alloc _ _))) (by exact lay2 _ _ 2 2)).mono ?_
    rintro e w2 ⟨rfl, hb⟩
    replace hb := (Onw.alloc _ _).trans hb
    replace B := B.onw hb
    replace O := O.trans hb
    clear hb bc
    have bc := B.cell
    go_wp2_with fail
    go_ret
    exact ⟨ret_bool (by first | rfl | (rw [h0]; rfl) | (rw [h0, h1]; rfl) | (rw [h0, h1, h2]; rfl) | (rw [h0, h1, h2, h3]; rfl) | (rw [h0, h9]; rfl) | (simp [*]; done) | (simp_all; done)), O⟩

set_option maxRecDepth 100000 in
set_option maxHeartbeats 4000000 in
theorem sf_throw (m : PM) (p : Int) (kk : Option Addr) (kn kc : Nat) (q : Nat → Option PX) (w : World) (hn : kn ≤ 1048576) (hk : ValsAt w kk kn (fun j => pv (q j))) (hkc : kn ≤ kc) (hnn : m.nn ≤ 1048576) (hz : ∀ i, i < m.nn → (m.nm i).size ≤ 1048576) (htx : m.text.size ≤ 1048576) (hm : StrsAt w m.na m.nn m.nm) :
    Calls Try.prog 27 #[.iface 98 (.agg #[.int .i64 p, .int .i64 m.kind, .int .i64 m.frm, .int .i64 m.tto, .int .i64 m.line, .int .i64 m.op, .int .i64 m.num, .float .f64 m.flt, .string m.text, .slice m.na m.nn m.nc, .slice m.ka m.nk m.kc, .slice kk kn kc])] w fun e w' => e = .returned (.bool (usesP m.toPD false false false false false && (kidsR [8] kn q))) ∧ Onw w w' := by
  have _use := And.intro hkc (And.intro hnn (And.intro hz (And.intro htx (And.intro hm (And.intro hn hk)))))
  clear _use
  have B := Blk.new w 98 #[.int .i64 p, .int .i64 m.kind, .int .i64 m.frm, .int .i64 m.tto, .int .i64 m.line, .int .i64 m.op, .int .i64 m.num, .float .f64 m.flt, .string m.text, .slice m.na m.nn m.nc, .slice m.ka m.nk m.kc, .slice kk kn kc]
  have O := Onw.alloc w (Obj.cells #[.int .i64 p, .int .i64 m.kind, .int .i64 m.frm, .int .i64 m.tto, .int .i64 m.line, .int .i64 m.op, .int .i64 m.num, .float .f64 m.flt, .string m.text, .slice m.na m.nn m.nc, .slice m.ka m.nk m.kc, .slice kk kn kc] 98)
  have bc := B.cell
  have a_block := as_block_no (t := 98) (by decide)
  have a_let := as_let_no (t := 98) (by decide)
  have a_const := as_const_no (t := 98) (by decide)
  have a_ownFn := as_ownFn_no (t := 98) (by decide)
  have a_set := as_set_no (t := 98) (by decide)
  have a_do := as_do_no (t := 98) (by decide)
  have a_if := as_if_no (t := 98) (by decide)
  have a_while := as_while_no (t := 98) (by decide)
  have a_for := as_for_no (t := 98) (by decide)
  have a_each := as_each_no (t := 98) (by decide)
  have a_jump := as_jump_no (t := 98) (by decide)
  have a_return := as_return_no (t := 98) (by decide)
  have a_try := as_try_no (t := 98) (by decide)
  have a_throw := as_throw_yes
  go_enter Try.func27, Try.ntmps27
  go_wp2_with fail
  refine (usesOnly_any m p kk kn kc 0 _ false false false false false (by simp)).mono ?_
  rintro e w1 ⟨rfl, hb⟩
  replace B := B.onw hb
  replace O := O.trans hb
  clear hb bc
  have bc := B.cell
  cases h0 : usesP m.toPD false false false false false
  · go_wp2_with fail
    go_ret
    exact ⟨ret_bool (by first | rfl | (rw [h0]; rfl) | (rw [h0, h1]; rfl) | (rw [h0, h1, h2]; rfl) | (rw [h0, h1, h2, h3]; rfl) | (rw [h0, h9]; rfl) | (simp [*]; done) | (simp_all; done)), O⟩
  · go_wp2_with fail
    refine (kidsAre_any m p kk kn kc q _ 1 _ (classF [8]) _ hn (hk.onw (O.trans (Onw.alloc _ _))) (by exact lay1 _ _ 8)).mono ?_
    rintro e w2 ⟨rfl, hb⟩
    replace hb := (Onw.alloc _ _).trans hb
    replace B := B.onw hb
    replace O := O.trans hb
    clear hb bc
    have bc := B.cell
    go_wp2_with fail
    go_ret
    exact ⟨ret_bool (by first | rfl | (rw [h0]; rfl) | (rw [h0, h1]; rfl) | (rw [h0, h1, h2]; rfl) | (rw [h0, h1, h2, h3]; rfl) | (rw [h0, h9]; rfl) | (simp [*]; done) | (simp_all; done)), O⟩

end Go.Proofs.Ytnokgdgikdgaeaa
